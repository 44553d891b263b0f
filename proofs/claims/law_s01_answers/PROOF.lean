import PyProof.Rows.All
import Dz01Spec
import Wide.All
import OpenK.AllK
import Wide.FinOn
import Open.SpecLaws
import KE.OsGo
import KE.KNest
import KE.KLam
import HandS.ForSpec
import HandS.Lambda
import HandS.Nested
import HandS.Comp
import HandS.Iter
import HandS.Text
import HandS.Wide
import HandS.WideBits
import HandS.Zip
import HandS.SortRule
import HandS.FStr
import HandS.StrMore
import HandS.Flow
import HandS.Walk
import HandS.Steps
import HandS.CallLocal
import KE.GoesEnum
import KE.GoesEnumKw
import KE.GoesZip
import HandS.EndTab
import PySem.Challenge.RW_starplaces_s01_answers
import KE.OsRun
import PyFlatLaws
import PyDz01
set_option Elab.async false
set_option linter.all false
set_option maxRecDepth 100000
set_option maxHeartbeats 8000000
namespace SP
open Dz01
/-! ### the sine -/
theorem one_pos : (0 : Int) < ONE := by decide
theorem one_eq : ONE = 1000000000000000000 := rfl
/-- a product of bounds -/
theorem mul_le {a b c d : Int} (ha : 0 ≤ a) (hab : a ≤ b) (hc : 0 ≤ c) (hcd : c ≤ d) : a * c ≤ b * d :=
  Int.le_trans (Int.mul_le_mul_of_nonneg_right hab hc) (Int.mul_le_mul_of_nonneg_left hcd (Int.le_trans ha hab))
/-- one term of the series behind another, at two places -/
theorem stp {t t' y y' d : Int} (ht : 0 ≤ t) (htt : t ≤ t') (hy : 0 ≤ y) (hyy : y ≤ y') (hd : 0 < d) : 0 ≤ t * y / ONE / d ∧ t * y / ONE / d ≤ t' * y' / ONE / d := by
  have h0 : 0 ≤ t * y := Int.mul_nonneg ht hy
  have h1 : t * y ≤ t' * y' := mul_le ht htt hy hyy
  have h2 : 0 ≤ t * y / ONE := Int.ediv_nonneg h0 (by decide)
  have h3 : t * y / ONE ≤ t' * y' / ONE := Int.ediv_le_ediv one_pos h1
  exact ⟨Int.ediv_nonneg h2 (Int.le_of_lt hd), Int.ediv_le_ediv hd h3⟩
theorem stp2 {t t' y y' d T Y A B C : Int} (ht : 0 ≤ t) (htt : t ≤ t') (hy : 0 ≤ y) (_hyy : y ≤ y') (hd : 0 < d) (hT : t ≤ T) (hY : y' ≤ Y) (hA : y' - y ≤ A) (hB : t' - t ≤ B) (hC : T * A + B * Y ≤ C * ONE) :
    (t' * y' / ONE / d - t * y / ONE / d) * d ≤ C + d := by
  have e : t' * y' = t * y + (t * (y' - y) + (t' - t) * y') := by
    rw [Int.mul_sub, Int.sub_mul]
    omega
  have h1 : t * (y' - y) ≤ T * A := mul_le ht hT (by omega) hA
  have h2 : (t' - t) * y' ≤ B * Y := mul_le (by omega) hB (by omega) hY
  have h3 : t' * y' ≤ t * y + C * ONE := by omega
  have h4 : t' * y' / ONE ≤ t * y / ONE + C := by
    have h5 : t' * y' / ONE ≤ (t * y + C * ONE) / ONE := Int.ediv_le_ediv one_pos h3
    rw [Int.add_mul_ediv_right _ _ (by decide : ONE ≠ 0)] at h5
    exact h5
  generalize t' * y' / ONE = p' at h4 ⊢
  generalize t * y / ONE = p at h4 ⊢
  have h6 : p' / d * d ≤ p' := Int.ediv_mul_le _ (by omega)
  have h7 : p < (p / d + 1) * d := Int.lt_ediv_add_one_mul_self p hd
  rw [Int.sub_mul]
  rw [Int.add_mul] at h7
  omega
/-- a term is no greater than the one before it -/
theorem stp_le {t y d : Int} (ht : 0 ≤ t) (hy : 0 ≤ y) (hY : y ≤ ONE) (hd : 1 ≤ d) : t * y / ONE / d ≤ t := by
  have h1 : t * y ≤ t * ONE := Int.mul_le_mul_of_nonneg_left hY ht
  have h2 : t * y / ONE ≤ t := by
    have h3 := Int.ediv_le_ediv one_pos h1
    rw [Int.mul_ediv_cancel _ (by decide : ONE ≠ 0)] at h3
    exact h3
  have h0 : 0 ≤ t * y / ONE := Int.ediv_nonneg (Int.mul_nonneg ht hy) (by decide)
  exact Int.le_trans (Int.ediv_le_self d h0) h2
/-- the terms: tm 0 = t -/
def tm (y t n : Int) : Nat → Int
  | 0 => t
  | k + 1 => tm y t n k * y / ONE / ((n + 2 * (k : Int)) * (n + 2 * (k : Int) + 1))
/-- what is added up behind k terms -/
def tot (y t n : Int) : Nat → Int
  | 0 => 0
  | k + 1 => if k % 2 = 0 then tot y t n k + tm y t n k else tot y t n k - tm y t n k
theorem ser_tot (y t n : Int) : ∀ (f k : Nat), tot y t n k + (if k % 2 = 0 then series f y (tm y t n k) (n + 2 * (k : Int)) else -series f y (tm y t n k) (n + 2 * (k : Int))) = tot y t n (k + f)
  | 0, k => by simp [series]
  | f + 1, k => by
    have ih := ser_tot y t n f (k + 1)
    have e1 : series (f + 1) y (tm y t n k) (n + 2 * (k : Int)) = tm y t n k - series f y (tm y t n (k + 1)) (n + 2 * ((k + 1 : Nat) : Int)) := by
      show tm y t n k - series f y _ (n + 2 * (k : Int) + 2) = _
      have e2 : n + 2 * (k : Int) + 2 = n + 2 * ((k + 1 : Nat) : Int) := by omega
      rw [e2]
      rfl
    rw [e1]
    have e3 : k + (f + 1) = k + 1 + f := by omega
    rw [e3, ← ih]
    by_cases h : k % 2 = 0
    · have h' : ¬ (k + 1) % 2 = 0 := by omega
      simp only [tot, h, h', if_true, if_false]
      omega
    · have h' : (k + 1) % 2 = 0 := by omega
      simp only [tot, h, h', if_true, if_false]
      omega
theorem tot_series (y t n : Int) : tot y t n 12 = series 12 y t n := by
  have h := ser_tot y t n 12 0
  have e : n + 2 * ((0 : Nat) : Int) = n := by omega
  have e2 : tot y t n (0 + 12) = tot y t n 12 := rfl
  have e3 : tot y t n 0 = 0 := rfl
  have e4 : tm y t n 0 = t := rfl
  rw [if_pos (by decide), e, e2, e3, e4] at h
  rw [← h]
  omega
theorem tm_bd {y t n : Int} (ht : 0 ≤ t) (hy : 0 ≤ y) (hY : y ≤ ONE) (hn : 1 ≤ n) : ∀ k, 0 ≤ tm y t n k ∧ tm y t n k ≤ t
  | 0 => ⟨ht, Int.le_refl _⟩
  | k + 1 => by
    obtain ⟨h1, h2⟩ := tm_bd ht hy hY hn k
    have hd : 1 ≤ (n + 2 * (k : Int)) * (n + 2 * (k : Int) + 1) := by
      have := mul_le (a := 1) (b := n + 2 * (k : Int)) (c := 1) (d := n + 2 * (k : Int) + 1) (by omega) (by omega) (by omega) (by omega)
      omega
    exact ⟨(stp h1 (Int.le_refl _) hy (Int.le_refl _) (by omega)).1, Int.le_trans (stp_le h1 hy hY hd) h2⟩
theorem tot_bd {y t n : Int} (ht : 0 ≤ t) (hy : 0 ≤ y) (hY : y ≤ ONE) (hn : 1 ≤ n) : ∀ k : Nat, -((k : Int) * t) ≤ tot y t n k ∧ tot y t n k ≤ (k : Int) * t
  | 0 => by simp [tot]
  | k + 1 => by
    obtain ⟨h1, h2⟩ := tot_bd ht hy hY hn k
    obtain ⟨h3, h4⟩ := tm_bd ht hy hY hn k
    have e : ((k + 1 : Nat) : Int) * t = (k : Int) * t + t := by
      rw [Int.natCast_add, Int.add_mul]
      simp
    rw [e]
    unfold tot
    split <;> omega
theorem series_bd {y t n : Int} (ht : 0 ≤ t) (hy : 0 ≤ y) (hY : y ≤ ONE) (hn : 1 ≤ n) : -(12 * t) ≤ series 12 y t n ∧ series 12 y t n ≤ 12 * t := by
  rw [← tot_series]
  exact tot_bd ht hy hY hn 12
/-- x and y of the document -/
theorem rad_bd {a : Int} (h0 : 0 ≤ a) (h : 2 * a ≤ QUARTER) : 0 ≤ radians a ∧ radians a ≤ 785398163397448310 := by
  have hq : QUARTER = 324000000 := rfl
  have e : radians a = a * 3141592653589793238 / 648000000 := rfl
  rw [e]
  omega
theorem sq_bd {x : Int} (h0 : 0 ≤ x) (h : x ≤ 785398163397448310) : 0 ≤ x * x / ONE ∧ x * x / ONE ≤ 616850275068084914 := by
  have h1 : 0 ≤ x * x := Int.mul_nonneg h0 h0
  have h2 : x * x ≤ 785398163397448310 * 785398163397448310 := mul_le h0 h h0 h
  refine ⟨Int.ediv_nonneg h1 (by decide), ?_⟩
  have h3 := Int.ediv_le_ediv one_pos h2
  exact Int.le_trans h3 (by decide)
/-- from one angle to the next -/
theorem rad_next {a : Int} : 4848136811 ≤ radians (a + 1) - radians a ∧ radians (a + 1) - radians a ≤ 4848136812 := by
  have e : ∀ a, radians a = a * 3141592653589793238 / 648000000 := fun _ => rfl
  rw [e, e]
  omega
theorem sq_next {x x' : Int} (h0 : 0 ≤ x) (h1 : 4848136811 ≤ x' - x) (h2 : x' - x ≤ 4848136812) (h3 : x' ≤ 785398163397448310) :
    22 ≤ x' * x' / ONE - x * x / ONE ∧ x' * x' / ONE - x * x / ONE ≤ 7700000000 := by
  have e : x' * x' = x * x + (x' - x) * (x' + x) := by
    rw [Int.sub_mul, Int.mul_add, Int.mul_add]
    have := Int.mul_comm x x'
    omega
  have h4 : 4848136811 * 4848136811 ≤ (x' - x) * (x' + x) := mul_le (by decide) h1 (by decide) (by omega)
  have h5 : (x' - x) * (x' + x) ≤ 4848136812 * 1570796326794896620 := mul_le (by omega) h2 (by omega) (by omega)
  rw [e]
  rw [one_eq]
  omega
/-- the terms at two places, from the s-th on -/
theorem tm_next {y y' t t' n T Y A B C m : Int} {s : Nat} (hy : 0 ≤ y) (hyy : y ≤ y') (hY1 : y' ≤ ONE) (hY : y' ≤ Y) (hA : y' - y ≤ A) (hC : T * A + B * Y ≤ C * ONE) (hm : 1 ≤ m) (hs : m ≤ n + 2 * (s : Int)) (hCB : C ≤ (B - 1) * (m * (m + 1))) (hB : 1 ≤ B)
    (h0 : 0 ≤ tm y t n s) (h1 : tm y t n s ≤ T) (h2 : tm y t n s ≤ tm y' t' n s) (h3 : tm y' t' n s - tm y t n s ≤ B) :
    ∀ k, s ≤ k → 0 ≤ tm y t n k ∧ tm y t n k ≤ T ∧ tm y t n k ≤ tm y' t' n k ∧ tm y' t' n k - tm y t n k ≤ B ∧
      (tm y' t' n (k + 1) - tm y t n (k + 1)) * ((n + 2 * (k : Int)) * (n + 2 * (k : Int) + 1)) ≤ C + (n + 2 * (k : Int)) * (n + 2 * (k : Int) + 1) := by
  intro k
  induction k with
  | zero =>
    intro hk
    have e : s = 0 := by omega
    subst e
    have hp : 1 * 1 ≤ (n + 2 * ((0 : Nat) : Int)) * (n + 2 * ((0 : Nat) : Int) + 1) := mul_le (by decide) (by omega) (by decide) (by omega)
    exact ⟨h0, h1, h2, h3, stp2 h0 h2 hy hyy (Int.lt_of_lt_of_le (by decide) hp) h1 hY hA h3 hC⟩
  | succ k ih =>
    intro hk
    by_cases e : s = k + 1
    · subst e
      have hp : 1 * 1 ≤ (n + 2 * ((k + 1 : Nat) : Int)) * (n + 2 * ((k + 1 : Nat) : Int) + 1) := mul_le (by decide) (by omega) (by decide) (by omega)
      exact ⟨h0, h1, h2, h3, stp2 h0 h2 hy hyy (Int.lt_of_lt_of_le (by decide) hp) h1 hY hA h3 hC⟩
    · obtain ⟨i0, i1, i2, i3, i4⟩ := ih (by omega)
      have hp : m * (m + 1) ≤ (n + 2 * (k : Int)) * (n + 2 * (k : Int) + 1) := mul_le (by omega) (by omega) (by omega) (by omega)
      have hp0 : 1 * 1 ≤ m * (m + 1) := mul_le (by decide) (by omega) (by decide) (by omega)
      have hp2 : 1 * 1 ≤ (n + 2 * ((k + 1 : Nat) : Int)) * (n + 2 * ((k + 1 : Nat) : Int) + 1) := mul_le (by decide) (by omega) (by decide) (by omega)
      have a := stp i0 i2 hy hyy (d := (n + 2 * (k : Int)) * (n + 2 * (k : Int) + 1)) (by omega)
      have j0 : 0 ≤ tm y t n (k + 1) := a.1
      have j2 : tm y t n (k + 1) ≤ tm y' t' n (k + 1) := a.2
      have j1 : tm y t n (k + 1) ≤ T := Int.le_trans (stp_le i0 hy (Int.le_trans hyy hY1) (by omega)) i1
      have j3 : tm y' t' n (k + 1) - tm y t n (k + 1) ≤ B := by
        generalize (n + 2 * (k : Int)) * (n + 2 * (k : Int) + 1) = d at hp i4
        have k1 : C ≤ (B - 1) * d := Int.le_trans hCB (Int.mul_le_mul_of_nonneg_left hp (by omega))
        have k2 : (tm y' t' n (k + 1) - tm y t n (k + 1)) * d ≤ B * d := by
          rw [Int.sub_mul] at k1
          omega
        exact Int.le_of_mul_le_mul_right k2 (by omega)
      exact ⟨j0, j1, j2, j3, stp2 j0 j2 hy hyy (Int.lt_of_lt_of_le (by decide) hp2) j1 hY hA j3 hC⟩
theorem tot12 (y t n : Int) : tot y t n 12 = tm y t n 0 - tm y t n 1 + tm y t n 2 - tm y t n 3 + tm y t n 4 - tm y t n 5 + tm y t n 6 - tm y t n 7 + tm y t n 8 - tm y t n 9 + tm y t n 10 - tm y t n 11 := by
  have e : tot y t n 12 = 0 + tm y t n 0 - tm y t n 1 + tm y t n 2 - tm y t n 3 + tm y t n 4 - tm y t n 5 + tm y t n 6 - tm y t n 7 + tm y t n 8 - tm y t n 9 + tm y t n 10 - tm y t n 11 := rfl
  rw [e, Int.zero_add]
theorem dv {z d C k : Int} (h : z * d ≤ C) (hd : 0 < d) (hk : C < (k + 1) * d) : z ≤ k := by
  have h2 : z * d < (k + 1) * d := Int.lt_of_le_of_lt h hk
  have h3 := Int.lt_of_mul_lt_mul_right h2 (Int.le_of_lt hd)
  omega
theorem fin_sin {x x' a1 a2 a3 a4 a5 a6 a7 a8 a9 a10 a11 b1 b2 b3 b4 b5 b6 b7 b8 b9 b10 b11 : Int} (d1 : 4848136811 ≤ x' - x) (f2 : a2 ≤ b2) (f4 : a4 ≤ b4) (f6 : a6 ≤ b6) (f8 : a8 ≤ b8) (f10 : a10 ≤ b10)
    (c1 : b1 - a1 ≤ 1533333334) (c3 : b3 - a3 ≤ 219047620) (c5 : b5 - a5 ≤ 83636364) (c7 : b7 - a7 ≤ 43809524) (c9 : b9 - a9 ≤ 26900585) (c11 : b11 - a11 ≤ 18181819) :
    x - a1 + a2 - a3 + a4 - a5 + a6 - a7 + a8 - a9 + a10 - a11 ≤ x' - b1 + b2 - b3 + b4 - b5 + b6 - b7 + b8 - b9 + b10 - b11 := by
  have e : x' - b1 + b2 - b3 + b4 - b5 + b6 - b7 + b8 - b9 + b10 - b11 - (x - a1 + a2 - a3 + a4 - a5 + a6 - a7 + a8 - a9 + a10 - a11) = (x' - x) - (b1 - a1) + (b2 - a2) - (b3 - a3) + (b4 - a4) - (b5 - a5) + (b6 - a6) - (b7 - a7) + (b8 - a8) - (b9 - a9) + (b10 - a10) - (b11 - a11) := by
    clear d1 f2 f4 f6 f8 f10 c1 c3 c5 c7 c9 c11
    omega
  refine Int.le_of_sub_nonneg ?_
  rw [e]
  have f2' := Int.sub_nonneg_of_le f2
  have f4' := Int.sub_nonneg_of_le f4
  have f6' := Int.sub_nonneg_of_le f6
  have f8' := Int.sub_nonneg_of_le f8
  have f10' := Int.sub_nonneg_of_le f10
  clear e f2 f4 f6 f8 f10
  generalize x' - x = d at *
  generalize b1 - a1 = e1 at *
  generalize b2 - a2 = e2 at *
  generalize b3 - a3 = e3 at *
  generalize b4 - a4 = e4 at *
  generalize b5 - a5 = e5 at *
  generalize b6 - a6 = e6 at *
  generalize b7 - a7 = e7 at *
  generalize b8 - a8 = e8 at *
  generalize b9 - a9 = e9 at *
  generalize b10 - a10 = e10 at *
  generalize b11 - a11 = e11 at *
  omega
theorem fin_cos {E y y' a2 a3 a4 a5 a6 a7 a8 a9 a10 a11 b2 b3 b4 b5 b6 b7 b8 b9 b10 b11 : Int} (q1 : 22 ≤ y' - y) (f3 : a3 ≤ b3) (f5 : a5 ≤ b5) (f7 : a7 ≤ b7) (f9 : a9 ≤ b9) (f11 : a11 ≤ b11)
    (c2 : b2 - a2 ≤ (y' - y) / 12 + 1) (c4 : b4 - a4 ≤ (y' - y) / 56 + 1) (c6 : b6 - a6 ≤ (y' - y) / 132 + 1) (c8 : b8 - a8 ≤ (y' - y) / 240 + 1) (c10 : b10 - a10 ≤ (y' - y) / 380 + 1) :
    E - y' / 2 + b2 - b3 + b4 - b5 + b6 - b7 + b8 - b9 + b10 - b11 ≤ E - y / 2 + a2 - a3 + a4 - a5 + a6 - a7 + a8 - a9 + a10 - a11 := by
  have w : (y' - y) / 12 + 1 + ((y' - y) / 56 + 1) + ((y' - y) / 132 + 1) + ((y' - y) / 240 + 1) + ((y' - y) / 380 + 1) ≤ y' / 2 - y / 2 := by
    clear f3 f5 f7 f9 f11 c2 c4 c6 c8 c10
    have w0 : (y' - y - 1) / 2 ≤ y' / 2 - y / 2 := by omega
    generalize y' - y = D at *
    have w1 : (D / 12) * 12 ≤ D := Int.ediv_mul_le _ (by decide)
    have w2 : (D / 56) ≤ D / 48 := by omega
    have w3 : (D / 132) ≤ D / 96 := by omega
    have w4 : (D / 240) ≤ D / 96 := by omega
    have w5 : (D / 380) ≤ D / 96 := by omega
    have w6 : D / 12 + 1 + (D / 48 + 1) + (D / 96 + 1) + (D / 96 + 1) + (D / 96 + 1) ≤ (D - 1) / 2 := by
      clear w0 w1 w2 w3 w4 w5
      omega
    generalize D / 12 = u1 at *
    generalize D / 56 = u2 at *
    generalize D / 132 = u3 at *
    generalize D / 240 = u4 at *
    generalize D / 380 = u5 at *
    generalize D / 48 = u6 at *
    generalize D / 96 = u7 at *
    generalize (D - 1) / 2 = u8 at *
    clear w1 q1
    omega
  have e : E - y / 2 + a2 - a3 + a4 - a5 + a6 - a7 + a8 - a9 + a10 - a11 - (E - y' / 2 + b2 - b3 + b4 - b5 + b6 - b7 + b8 - b9 + b10 - b11) = (y' / 2 - y / 2) - (b2 - a2) + (b3 - a3) - (b4 - a4) + (b5 - a5) - (b6 - a6) + (b7 - a7) - (b8 - a8) + (b9 - a9) - (b10 - a10) + (b11 - a11) := by
    clear w q1 f3 f5 f7 f9 f11 c2 c4 c6 c8 c10
    generalize y' / 2 = v' at *
    generalize y / 2 = v at *
    omega
  refine Int.le_of_sub_nonneg ?_
  rw [e]
  have f3' := Int.sub_nonneg_of_le f3
  have f5' := Int.sub_nonneg_of_le f5
  have f7' := Int.sub_nonneg_of_le f7
  have f9' := Int.sub_nonneg_of_le f9
  have f11' := Int.sub_nonneg_of_le f11
  clear e f3 f5 f7 f9 f11 q1
  generalize b2 - a2 = e2 at *
  generalize b3 - a3 = e3 at *
  generalize b4 - a4 = e4 at *
  generalize b5 - a5 = e5 at *
  generalize b6 - a6 = e6 at *
  generalize b7 - a7 = e7 at *
  generalize b8 - a8 = e8 at *
  generalize b9 - a9 = e9 at *
  generalize b10 - a10 = e10 at *
  generalize b11 - a11 = e11 at *
  generalize (y' - y) / 12 = u1 at *
  generalize (y' - y) / 56 = u2 at *
  generalize (y' - y) / 132 = u3 at *
  generalize (y' - y) / 240 = u4 at *
  generalize (y' - y) / 380 = u5 at *
  generalize y' / 2 - y / 2 = v at *
  omega
theorem smallSin_next {a : Int} (h0 : 0 ≤ a) (h : 2 * (a + 1) ≤ QUARTER) : smallSin a ≤ smallSin (a + 1) := by
  obtain ⟨x0, x1⟩ := rad_bd h0 (show 2 * a ≤ QUARTER by omega)
  obtain ⟨z0, z1⟩ := rad_bd (a := a + 1) (by omega) h
  obtain ⟨d1, d2⟩ := rad_next (a := a)
  show series 12 (radians a * radians a / ONE) (radians a) 2 ≤ series 12 (radians (a + 1) * radians (a + 1) / ONE) (radians (a + 1)) 2
  generalize radians a = x at *
  generalize radians (a + 1) = x' at *
  obtain ⟨y0, y1⟩ := sq_bd x0 x1
  obtain ⟨w0, w1⟩ := sq_bd z0 z1
  obtain ⟨q1, q2⟩ := sq_next x0 d1 d2 z1
  generalize x * x / ONE = y at *
  generalize x' * x' / ONE = y' at *
  rw [← tot_series, ← tot_series, tot12, tot12]
  have key := tm_next (y := y) (y' := y') (t := x) (t' := x') (n := 2) (T := 800000000000000000) (Y := 620000000000000000) (A := 7700000000) (B := 4848136812) (C := 9200000000) (m := 2) (s := 0) y0 (by omega) (by rw [one_eq]; omega) (by omega) q2 (by decide) (by decide) (by decide) (by decide) (by decide) x0
    (by show x ≤ _; omega) (by show x ≤ x'; omega) d2
  have e0 : tm y x 2 0 = x := rfl
  have e0' : tm y' x' 2 0 = x' := rfl
  rw [e0, e0']
  have c1 : (tm y' x' 2 1 - tm y x 2 1) * 6 ≤ 9200000000 + 6 := (key 0 (by omega)).2.2.2.2
  have c3 : (tm y' x' 2 3 - tm y x 2 3) * 42 ≤ 9200000000 + 42 := (key 2 (by omega)).2.2.2.2
  have c5 : (tm y' x' 2 5 - tm y x 2 5) * 110 ≤ 9200000000 + 110 := (key 4 (by omega)).2.2.2.2
  have c7 : (tm y' x' 2 7 - tm y x 2 7) * 210 ≤ 9200000000 + 210 := (key 6 (by omega)).2.2.2.2
  have c9 : (tm y' x' 2 9 - tm y x 2 9) * 342 ≤ 9200000000 + 342 := (key 8 (by omega)).2.2.2.2
  have c11 : (tm y' x' 2 11 - tm y x 2 11) * 506 ≤ 9200000000 + 506 := (key 10 (by omega)).2.2.2.2
  exact fin_sin d1 (key 2 (by omega)).2.2.1 (key 4 (by omega)).2.2.1 (key 6 (by omega)).2.2.1 (key 8 (by omega)).2.2.1 (key 10 (by omega)).2.2.1
    (dv c1 (by decide) (by decide)) (dv c3 (by decide) (by decide)) (dv c5 (by decide) (by decide)) (dv c7 (by decide) (by decide)) (dv c9 (by decide) (by decide)) (dv c11 (by decide) (by decide))
theorem smallCos_next {a : Int} (h0 : 0 ≤ a) (h : 2 * (a + 1) ≤ QUARTER) : smallCos (a + 1) ≤ smallCos a := by
  obtain ⟨x0, x1⟩ := rad_bd h0 (show 2 * a ≤ QUARTER by omega)
  obtain ⟨z0, z1⟩ := rad_bd (a := a + 1) (by omega) h
  obtain ⟨d1, d2⟩ := rad_next (a := a)
  show series 12 (radians (a + 1) * radians (a + 1) / ONE) ONE 1 ≤ series 12 (radians a * radians a / ONE) ONE 1
  generalize radians a = x at *
  generalize radians (a + 1) = x' at *
  obtain ⟨y0, y1⟩ := sq_bd x0 x1
  obtain ⟨w0, w1⟩ := sq_bd z0 z1
  obtain ⟨q1, q2⟩ := sq_next x0 d1 d2 z1
  generalize x * x / ONE = y at *
  generalize x' * x' / ONE = y' at *
  rw [← tot_series, ← tot_series, tot12, tot12]
  have t1 : tm y ONE 1 1 = y / 2 := by
    show ONE * y / ONE / 2 = y / 2
    rw [Int.mul_ediv_cancel_left _ (by decide : ONE ≠ 0)]
  have t1' : tm y' ONE 1 1 = y' / 2 := by
    show ONE * y' / ONE / 2 = y' / 2
    rw [Int.mul_ediv_cancel_left _ (by decide : ONE ≠ 0)]
  have key := tm_next (y := y) (y' := y') (t := ONE) (t' := ONE) (n := 1) (T := 310000000000000000) (Y := 620000000000000000) (A := y' - y) (B := (y' - y + 1) / 2) (C := y' - y) (m := 3) (s := 1) y0 (by omega) (by rw [one_eq]; omega) (by omega) (by omega) (by rw [one_eq]; omega) (by decide) (by decide) (by omega) (by omega)
    (by rw [t1]; omega) (by rw [t1]; omega) (by rw [t1, t1']; omega) (by rw [t1, t1']; omega)
  have e0 : tm y ONE 1 0 = ONE := rfl
  have e0' : tm y' ONE 1 0 = ONE := rfl
  rw [e0, e0', t1, t1']
  have c2 : (tm y' ONE 1 2 - tm y ONE 1 2) * 12 ≤ (y' - y) + 12 := (key 1 (by omega)).2.2.2.2
  have c4 : (tm y' ONE 1 4 - tm y ONE 1 4) * 56 ≤ (y' - y) + 56 := (key 3 (by omega)).2.2.2.2
  have c6 : (tm y' ONE 1 6 - tm y ONE 1 6) * 132 ≤ (y' - y) + 132 := (key 5 (by omega)).2.2.2.2
  have c8 : (tm y' ONE 1 8 - tm y ONE 1 8) * 240 ≤ (y' - y) + 240 := (key 7 (by omega)).2.2.2.2
  have c10 : (tm y' ONE 1 10 - tm y ONE 1 10) * 380 ≤ (y' - y) + 380 := (key 9 (by omega)).2.2.2.2
  exact fin_cos q1 (key 3 (by omega)).2.2.1 (key 5 (by omega)).2.2.1 (key 7 (by omega)).2.2.1 (key 9 (by omega)).2.2.1 (key 11 (by omega)).2.2.1 (by omega) (by omega) (by omega) (by omega) (by omega)
end SP

namespace SP
open Dz01
/-! ### the sine rises from 0 to a quarter -/
theorem q_eq : QUARTER = 324000000 := rfl
theorem turn_eq : TURN = 1296000000 := rfl
theorem sin_quarter {m : Int} (h0 : 0 ≤ m) (h : m < QUARTER) : Dz01.sin m = quarterSin m := by
  have hq := q_eq
  have ht := turn_eq
  have e1 : reduced m = m := by
    show m % TURN = m
    rw [ht]
    omega
  have e2 : m % QUARTER = m := by
    rw [hq]
    omega
  have e3 : m / QUARTER = 0 := by
    rw [hq]
    omega
  show (if reduced m / QUARTER = 0 then quarterSin (reduced m % QUARTER) else if reduced m / QUARTER = 1 then quarterCos (reduced m % QUARTER) else if reduced m / QUARTER = 2 then -quarterSin (reduced m % QUARTER) else -quarterCos (reduced m % QUARTER)) = _
  rw [e1, e2, e3, if_pos rfl]
theorem sin_Q : Dz01.sin QUARTER = ONE := by decide +kernel
theorem sin_zero : Dz01.sin 0 = 0 := by decide +kernel
theorem mid : smallSin 162000000 ≤ smallCos 161999999 := by decide +kernel
theorem sin_next {m : Int} (h0 : 0 ≤ m) (h : m < QUARTER) : Dz01.sin m ≤ Dz01.sin (m + 1) := by
  have hq := q_eq
  rw [sin_quarter h0 h]
  by_cases h1 : m + 1 = QUARTER
  · rw [h1, sin_Q]
    have h2 : m = 323999999 := by omega
    rw [h2]
    decide +kernel
  rw [sin_quarter (by omega) (by omega)]
  unfold quarterSin
  by_cases h2 : 2 * (m + 1) ≤ QUARTER
  · rw [if_pos h2, if_pos (by omega)]
    exact smallSin_next h0 h2
  · rw [if_neg h2]
    by_cases h3 : 2 * m ≤ QUARTER
    · rw [if_pos h3]
      have h4 : m = 162000000 := by omega
      rw [h4]
      exact mid
    · rw [if_neg h3]
      have h5 := smallCos_next (a := QUARTER - (m + 1)) (by omega) (by omega)
      have e : QUARTER - (m + 1) + 1 = QUARTER - m := by omega
      rw [e] at h5
      exact h5
theorem sin_mono {a b : Int} (h0 : 0 ≤ a) (h : a ≤ b) (hb : b ≤ QUARTER) : Dz01.sin a ≤ Dz01.sin b := by
  have key : ∀ n : Nat, a + (n : Int) ≤ QUARTER → Dz01.sin a ≤ Dz01.sin (a + (n : Int)) := by
    intro n
    induction n with
    | zero =>
      intro _
      have e : a + ((0 : Nat) : Int) = a := by omega
      rw [e]
      exact Int.le_refl _
    | succ n ih =>
      intro hn
      have i1 := ih (by omega)
      have i2 := sin_next (m := a + (n : Int)) (by omega) (by omega)
      have e : a + ((n + 1 : Nat) : Int) = a + (n : Int) + 1 := by omega
      rw [e]
      exact Int.le_trans i1 i2
  have h2 := key (b - a).toNat (by omega)
  have e : a + ((b - a).toNat : Int) = b := by omega
  rw [e] at h2
  exact h2
theorem sin_nn {m : Int} (h0 : 0 ≤ m) (h : m ≤ QUARTER) : 0 ≤ Dz01.sin m := by
  have := sin_mono (Int.le_refl 0) h0 h
  rw [sin_zero] at this
  exact this
theorem sin_le {m : Int} (h0 : 0 ≤ m) (h : m ≤ QUARTER) : Dz01.sin m ≤ ONE := by
  have := sin_mono h0 h (Int.le_refl _)
  rw [sin_Q] at this
  exact this
/-! ### any angle -/
theorem quarterSin_bd {r : Int} (h0 : 0 ≤ r) (h : r < QUARTER) : 0 ≤ quarterSin r ∧ quarterSin r ≤ ONE := by
  rw [← sin_quarter h0 h]
  exact ⟨sin_nn h0 (by omega), sin_le h0 (by omega)⟩
theorem smallCos_anti {a b : Int} (h0 : 0 ≤ a) (h : a ≤ b) (hb : 2 * b ≤ QUARTER) : smallCos b ≤ smallCos a := by
  have key : ∀ n : Nat, 2 * (a + (n : Int)) ≤ QUARTER → smallCos (a + (n : Int)) ≤ smallCos a := by
    intro n
    induction n with
    | zero =>
      intro _
      have e : a + ((0 : Nat) : Int) = a := by omega
      rw [e]
      exact Int.le_refl _
    | succ n ih =>
      intro hn
      have i1 := ih (by omega)
      have i2 := smallCos_next (a := a + (n : Int)) (by omega) (by omega)
      have e : a + ((n + 1 : Nat) : Int) = a + (n : Int) + 1 := by omega
      rw [e]
      exact Int.le_trans i2 i1
  have h2 := key (b - a).toNat (by omega)
  have e : a + ((b - a).toNat : Int) = b := by omega
  rw [e] at h2
  exact h2
theorem quarterCos_bd {r : Int} (h0 : 0 ≤ r) (h : r < QUARTER) : 0 ≤ quarterCos r ∧ quarterCos r ≤ ONE := by
  have hq := q_eq
  unfold quarterCos
  by_cases h1 : 2 * r ≤ QUARTER
  · rw [if_pos h1]
    have a1 := smallCos_anti (Int.le_refl 0) h0 h1
    have a2 := smallCos_anti h0 (show r ≤ 162000000 by omega) (by decide)
    have b1 : smallCos 0 = ONE := by decide +kernel
    have b2 : 0 ≤ smallCos 162000000 := by decide +kernel
    rw [b1] at a1
    exact ⟨Int.le_trans b2 a2, a1⟩
  · rw [if_neg h1]
    have e : quarterSin (QUARTER - r) = smallSin (QUARTER - r) := if_pos (by omega)
    rw [← e]
    exact quarterSin_bd (by omega) (by omega)
theorem red_bd (a : Int) : 0 ≤ reduced a / QUARTER ∧ reduced a / QUARTER < 4 ∧ 0 ≤ reduced a % QUARTER ∧ reduced a % QUARTER < QUARTER := by
  have e : reduced a = a % 1296000000 := rfl
  rw [e, q_eq]
  omega
theorem sin_bd (a : Int) : -ONE ≤ Dz01.sin a ∧ Dz01.sin a ≤ ONE := by
  obtain ⟨h1, h2, h3, h4⟩ := red_bd a
  have s := quarterSin_bd h3 h4
  have c := quarterCos_bd h3 h4
  have z := one_pos
  show -ONE ≤ (if reduced a / QUARTER = 0 then quarterSin (reduced a % QUARTER) else if reduced a / QUARTER = 1 then quarterCos (reduced a % QUARTER) else if reduced a / QUARTER = 2 then -quarterSin (reduced a % QUARTER) else -quarterCos (reduced a % QUARTER)) ∧
    (if reduced a / QUARTER = 0 then quarterSin (reduced a % QUARTER) else if reduced a / QUARTER = 1 then quarterCos (reduced a % QUARTER) else if reduced a / QUARTER = 2 then -quarterSin (reduced a % QUARTER) else -quarterCos (reduced a % QUARTER)) ≤ ONE
  generalize quarterSin (reduced a % QUARTER) = u at *
  generalize quarterCos (reduced a % QUARTER) = v at *
  split
  · omega
  · split
    · omega
    · split <;> omega
theorem cos_sin (a : Int) : Dz01.cos a = Dz01.sin (a + QUARTER) := by
  have e1 : reduced (a + QUARTER) % QUARTER = reduced a % QUARTER := by
    show (a + QUARTER) % 1296000000 % QUARTER = a % 1296000000 % QUARTER
    rw [q_eq]
    omega
  have e2 : reduced (a + QUARTER) / QUARTER = (reduced a / QUARTER + 1) % 4 := by
    show (a + QUARTER) % 1296000000 / QUARTER = (a % 1296000000 / QUARTER + 1) % 4
    rw [q_eq]
    omega
  obtain ⟨h1, h2, -, -⟩ := red_bd a
  show (if reduced a / QUARTER = 0 then quarterCos (reduced a % QUARTER) else if reduced a / QUARTER = 1 then -quarterSin (reduced a % QUARTER) else if reduced a / QUARTER = 2 then -quarterCos (reduced a % QUARTER) else quarterSin (reduced a % QUARTER)) =
    (if reduced (a + QUARTER) / QUARTER = 0 then quarterSin (reduced (a + QUARTER) % QUARTER) else if reduced (a + QUARTER) / QUARTER = 1 then quarterCos (reduced (a + QUARTER) % QUARTER) else if reduced (a + QUARTER) / QUARTER = 2 then -quarterSin (reduced (a + QUARTER) % QUARTER) else -quarterCos (reduced (a + QUARTER) % QUARTER))
  rw [e1, e2]
  generalize reduced a / QUARTER = q at *
  generalize quarterSin (reduced a % QUARTER) = u at *
  generalize quarterCos (reduced a % QUARTER) = v at *
  have hq : q = 0 ∨ q = 1 ∨ q = 2 ∨ q = 3 := by omega
  rcases hq with rfl | rfl | rfl | rfl <;> simp
theorem cos_bd (a : Int) : -ONE ≤ Dz01.cos a ∧ Dz01.cos a ≤ ONE := by
  rw [cos_sin]
  exact sin_bd _
/-! ### halving -/
/-- what halving finds, for a test that is true up to a place and false behind it -/
theorem bisect_loop (p : Int → Bool) : ∀ (f : Nat) (lo hi : Int), hi - lo ≤ 2 ^ f → lo ≤ bisect p f lo hi ∧ (lo < hi → bisect p f lo hi < hi) ∧ (bisect p f lo hi = lo ∨ p (bisect p f lo hi) = true) ∧ (lo < hi → bisect p f lo hi + 1 = hi ∨ p (bisect p f lo hi + 1) = false)
  | 0, lo, hi, h => by
    have h' : hi - lo ≤ 1 := h
    refine ⟨Int.le_refl _, fun q => q, .inl rfl, fun q => .inl ?_⟩
    show lo + 1 = hi
    omega
  | f + 1, lo, hi, h => by
    have h' : hi - lo ≤ 2 ^ f * 2 := h
    by_cases c : hi - lo ≤ 1
    · have e : bisect p (f + 1) lo hi = lo := if_pos c
      rw [e]
      exact ⟨Int.le_refl _, fun q => q, .inl rfl, fun q => .inl (by omega)⟩
    · by_cases hp : p ((lo + hi) / 2) = true
      · have e : bisect p (f + 1) lo hi = bisect p f ((lo + hi) / 2) hi := (if_neg c).trans (if_pos hp)
        rw [e]
        obtain ⟨i1, i2, i3, i4⟩ := bisect_loop p f ((lo + hi) / 2) hi (by omega)
        refine ⟨by omega, fun _ => i2 (by omega), .inr ?_, fun _ => i4 (by omega)⟩
        rcases i3 with i3 | i3
        · rw [i3]
          exact hp
        · exact i3
      · have e : bisect p (f + 1) lo hi = bisect p f lo ((lo + hi) / 2) := (if_neg c).trans (if_neg hp)
        rw [e]
        obtain ⟨i1, i2, i3, i4⟩ := bisect_loop p f lo ((lo + hi) / 2) (by omega)
        have i2' := i2 (by omega)
        refine ⟨i1, fun _ => by omega, i3, fun _ => .inr ?_⟩
        rcases i4 (by omega) with i4 | i4
        · rw [i4]
          exact Bool.eq_false_iff.mpr hp
        · exact i4
/-- more fuel than enough changes nothing -/
theorem bisect_fuel (p : Int → Bool) : ∀ (f g : Nat) (lo hi : Int), hi - lo ≤ 2 ^ f → f ≤ g → bisect p g lo hi = bisect p f lo hi
  | 0, 0, lo, hi, _, _ => rfl
  | 0, g + 1, lo, hi, h, _ => if_pos (show hi - lo ≤ 1 from h)
  | f + 1, 0, lo, hi, _, hg => by omega
  | f + 1, g + 1, lo, hi, h, hg => by
    have h' : hi - lo ≤ 2 ^ f * 2 := h
    by_cases c : hi - lo ≤ 1
    · exact (if_pos c : bisect p (g + 1) lo hi = lo).trans (if_pos c : bisect p (f + 1) lo hi = lo).symm
    · by_cases hp : p ((lo + hi) / 2) = true
      · rw [show bisect p (f + 1) lo hi = bisect p f ((lo + hi) / 2) hi from (if_neg c).trans (if_pos hp), show bisect p (g + 1) lo hi = bisect p g ((lo + hi) / 2) hi from (if_neg c).trans (if_pos hp)]
        exact bisect_fuel p f g _ _ (by omega) (by omega)
      · rw [show bisect p (f + 1) lo hi = bisect p f lo ((lo + hi) / 2) from (if_neg c).trans (if_neg hp), show bisect p (g + 1) lo hi = bisect p g lo ((lo + hi) / 2) from (if_neg c).trans (if_neg hp)]
        exact bisect_fuel p f g _ _ (by omega) (by omega)
theorem arc_loop (v : Int) : 0 ≤ bisect (fun x => decide (Dz01.sin x ≤ v)) 30 0 (QUARTER + 1) ∧ bisect (fun x => decide (Dz01.sin x ≤ v)) 30 0 (QUARTER + 1) ≤ QUARTER ∧
    (bisect (fun x => decide (Dz01.sin x ≤ v)) 30 0 (QUARTER + 1) = 0 ∨ Dz01.sin (bisect (fun x => decide (Dz01.sin x ≤ v)) 30 0 (QUARTER + 1)) ≤ v) ∧
    (bisect (fun x => decide (Dz01.sin x ≤ v)) 30 0 (QUARTER + 1) = QUARTER ∨ v < Dz01.sin (bisect (fun x => decide (Dz01.sin x ≤ v)) 30 0 (QUARTER + 1) + 1)) := by
  obtain ⟨h1, h2, h3, h4⟩ := bisect_loop (fun x => decide (Dz01.sin x ≤ v)) 30 0 (QUARTER + 1) (by decide)
  have h2' := h2 (by decide)
  have h4' := h4 (by decide)
  generalize bisect (fun x => decide (Dz01.sin x ≤ v)) 30 0 (QUARTER + 1) = r at *
  refine ⟨h1, by omega, h3.imp id fun z => of_decide_eq_true z, ?_⟩
  rcases h4' with z | z
  · exact .inl (by omega)
  · have z2 := of_decide_eq_false z
    exact .inr (by omega)
theorem arcsin_nn {v : Int} (h : 0 ≤ v) : arcsin v = bisect (fun x => decide (Dz01.sin x ≤ v)) 30 0 (QUARTER + 1) := by
  have e : ((v.natAbs : Nat) : Int) = v := by omega
  show (if v < 0 then -bisect (fun x => decide (Dz01.sin x ≤ ((v.natAbs : Nat) : Int))) 30 0 (QUARTER + 1) else bisect (fun x => decide (Dz01.sin x ≤ ((v.natAbs : Nat) : Int))) 30 0 (QUARTER + 1)) = _
  rw [if_neg (by omega), e]
theorem arcsin_bd {v : Int} (h : 0 ≤ v) : 0 ≤ arcsin v ∧ arcsin v ≤ QUARTER := by
  rw [arcsin_nn h]
  exact ⟨(arc_loop v).1, (arc_loop v).2.1⟩
/-- an arcsin is at most a: the sine behind a is greater -/
theorem arcsin_le_iff {v a : Int} (h : 0 ≤ v) (ha : 0 ≤ a) (hq : a < QUARTER) : arcsin v ≤ a ↔ v < Dz01.sin (a + 1) := by
  rw [arcsin_nn h]
  obtain ⟨h1, h2, h3, h4⟩ := arc_loop v
  generalize bisect (fun x => decide (Dz01.sin x ≤ v)) 30 0 (QUARTER + 1) = r at *
  constructor
  · intro q
    rcases h4 with z | z
    · omega
    · exact Int.lt_of_lt_of_le z (sin_mono (by omega) (by omega) (by omega))
  · intro q
    rcases h3 with z | z
    · omega
    · by_cases c : r ≤ a
      · exact c
      · have := sin_mono (a := a + 1) (b := r) (by omega) (by omega) h2
        omega
end SP

namespace SP
open Dz01
/-! ### dates -/
/-- days ahead of a year, from the year 1 on -/
def dby (y : Int) : Int := (y - 1) * 365 + (y - 1) / 4 - (y - 1) / 100 + (y - 1) / 400
theorem dby_eq (y : Int) : dby y = daysBeforeYear y + 730119 := by
  unfold dby daysBeforeYear
  omega
def yearOf (n : Int) : Int := if n < dby (n * 400 / 146097 + 1 + 1) then n * 400 / 146097 + 1 else n * 400 / 146097 + 1 + 1
theorem yearOf_is (n : Int) : dby (yearOf n) ≤ n ∧ n < dby (yearOf n + 1) := by
  unfold yearOf
  split
  · rename_i h
    refine ⟨?_, h⟩
    unfold dby
    omega
  · rename_i h
    refine ⟨by omega, ?_⟩
    clear h
    unfold dby
    omega
theorem dby_step (y : Int) : dby y + 365 ≤ dby (y + 1) ∧ dby (y + 1) ≤ dby y + 366 := by
  unfold dby
  omega
theorem dby_mono {y z : Int} (h : y ≤ z) : dby y ≤ dby z := by
  unfold dby
  omega
theorem dby_lt {y z : Int} (h : dby y < dby z) : y < z := by
  by_cases c : y < z
  · exact c
  · have := dby_mono (y := z) (z := y) (by omega)
    omega
theorem year_uniq {n y z : Int} (h1 : dby y ≤ n) (h2 : n < dby (y + 1)) (h3 : dby z ≤ n) (h4 : n < dby (z + 1)) : y = z := by
  have a := dby_lt (y := y) (z := z + 1) (by omega)
  have b := dby_lt (y := z) (z := y + 1) (by omega)
  omega
/-- the last of a row of years that begins no later -/
def lastY (days : Int) (l : List Int) (b : Int) : Int := l.foldl (fun best y => if daysBeforeYear y ≤ days then y else best) b
theorem last_step (days g : Int) (k : Nat) : lastY days ((List.range (k + 1)).map fun (i : Nat) => g + (i : Int)) g = if daysBeforeYear (g + (k : Int)) ≤ days then g + (k : Int) else lastY days ((List.range k).map fun (i : Nat) => g + (i : Int)) g := by
  unfold lastY
  rw [List.range_succ, List.map_append, List.foldl_append]
  rfl
theorem last_is (days g : Int) (h0 : daysBeforeYear g ≤ days) : ∀ k : Nat, days < daysBeforeYear (g + (k : Int)) → daysBeforeYear (lastY days ((List.range k).map fun (i : Nat) => g + (i : Int)) g) ≤ days ∧ days < daysBeforeYear (lastY days ((List.range k).map fun (i : Nat) => g + (i : Int)) g + 1)
  | 0, h => by
    have e : g + ((0 : Nat) : Int) = g := by omega
    rw [e] at h
    omega
  | k + 1, h => by
    rw [last_step]
    by_cases c : daysBeforeYear (g + (k : Int)) ≤ days
    · rw [if_pos c]
      have e : g + ((k + 1 : Nat) : Int) = g + (k : Int) + 1 := by omega
      rw [e] at h
      exact ⟨c, h⟩
    · rw [if_neg c]
      exact last_is days g h0 k (by omega)
theorem year_spec {t : Int} (h1 : -10000000000 ≤ t) (h2 : t ≤ 10000000000) : yearOf ((t + 43200) / 86400 + 730119) = lastY ((t + 43200) / 86400) ((List.range 12).map fun (i : Nat) => (2000 + (t + 43200) / 86400 / 366 - 1) + (i : Int)) (2000 + (t + 43200) / 86400 / 366 - 1) := by
  have hd1 : -115741 ≤ (t + 43200) / 86400 := by omega
  have hd2 : (t + 43200) / 86400 ≤ 115742 := by omega
  generalize (t + 43200) / 86400 = days at *
  have a := yearOf_is (days + 730119)
  have e : ∀ y, dby y = daysBeforeYear y + 730119 := dby_eq
  have b := last_is days (2000 + days / 366 - 1) (by
    unfold daysBeforeYear
    omega) 12 (by
    unfold daysBeforeYear
    omega)
  refine year_uniq a.1 a.2 ?_ ?_
  · rw [e]
    omega
  · rw [e]
    omega
/-! ### months -/
def mdl (leap : Bool) (m : Int) : Int := if m = 2 then (if leap = true then 29 else 28) else if m = 4 ∨ m = 6 ∨ m = 9 ∨ m = 11 then 30 else 31
theorem mdl_eq (y m : Int) : monthDays y m = mdl (isLeap y) m := rfl
def dbml (leap : Bool) (m : Int) : Int := ((List.range (m - 1).toNat).map fun (i : Nat) => mdl leap ((i : Int) + 1)).foldl (fun a b => a + b) 0
theorem dbml_eq (y m : Int) : daysBeforeMonth y m = dbml (isLeap y) m := rfl
theorem dbml_step (l : Bool) {m : Int} (h : 1 ≤ m) : dbml l (m + 1) = dbml l m + mdl l m := by
  unfold dbml
  have e : (m + 1 - 1).toNat = (m - 1).toNat + 1 := by omega
  rw [e, List.range_succ, List.map_append, List.foldl_append]
  have e2 : (((m - 1).toNat : Nat) : Int) + 1 = m := by omega
  show _ + mdl l ((((m - 1).toNat : Nat) : Int) + 1) = _
  rw [e2]
theorem dbml_13 (l : Bool) : dbml l 13 = if l = true then 366 else 365 := by cases l <;> decide +kernel
theorem leap_days (y : Int) : dby (y + 1) = dby y + (if isLeap y = true then 366 else 365) := by
  have e : isLeap y = (decide (y % 4 = 0) && (!decide (y % 100 = 0) || decide (y % 400 = 0))) := rfl
  rw [e]
  unfold dby
  by_cases h1 : y % 4 = 0 <;> by_cases h2 : y % 100 = 0 <;> by_cases h3 : y % 400 = 0 <;> simp [h1, h2, h3] <;> omega
def monL (l : Bool) (n : Int) : Int := ((List.range 12).map fun (i : Nat) => (i : Int) + 1).foldl (fun best m => if dbml l m ≤ n then m else best) 1
theorem monL_eq (y n : Int) : monthOf y n = monL (isLeap y) n := rfl
theorem mdl_pos (l : Bool) (m : Int) : 28 ≤ mdl l m ∧ mdl l m ≤ 31 := by
  unfold mdl
  split
  · split <;> omega
  · split <;> omega
theorem dbml_mono (l : Bool) : ∀ (k : Nat) {m : Int}, 1 ≤ m → dbml l m ≤ dbml l (m + (k : Int))
  | 0, m, _ => by
    have e : m + ((0 : Nat) : Int) = m := by omega
    rw [e]
    exact Int.le_refl _
  | k + 1, m, h => by
    have i1 := dbml_mono l k h
    have i2 := dbml_step l (m := m + (k : Int)) (by omega)
    have i3 := mdl_pos l (m + (k : Int))
    have e : m + ((k + 1 : Nat) : Int) = m + (k : Int) + 1 := by omega
    rw [e]
    omega
def lastF (l : Bool) (n : Int) (k : Nat) : Int := ((List.range k).map fun (i : Nat) => (i : Int) + 1).foldl (fun best m => if dbml l m ≤ n then m else best) 1
theorem lastF_succ (l : Bool) (n : Int) (k : Nat) : lastF l n (k + 1) = if dbml l ((k : Int) + 1) ≤ n then (k : Int) + 1 else lastF l n k := by
  unfold lastF
  rw [List.range_succ, List.map_append, List.foldl_append]
  rfl
theorem lastF_is (l : Bool) {n m : Int} (hm : 1 ≤ m) (h1 : dbml l m ≤ n) (h2 : n < dbml l (m + 1)) : ∀ k : Nat, m ≤ (k : Int) → lastF l n k = m
  | 0, h => by omega
  | k + 1, h => by
    rw [lastF_succ]
    by_cases c : m = (k : Int) + 1
    · rw [← c, if_pos h1]
    · have i1 := dbml_mono l ((k : Int) - m).toNat (m := m + 1) (by omega)
      have e : m + 1 + (((k : Int) - m).toNat : Int) = (k : Int) + 1 := by omega
      rw [e] at i1
      rw [if_neg (by omega)]
      exact lastF_is l hm h1 h2 k (by omega)
theorem monL_is (l : Bool) {n m : Int} (hm : 1 ≤ m) (hm2 : m ≤ 12) (h1 : dbml l m ≤ n) (h2 : n < dbml l (m + 1)) : monL l n = m := lastF_is l hm h1 h2 12 hm2
/-- the date of a moment, by the month that its day is in -/
theorem date_spec {t m : Int} (h1 : -10000000000 ≤ t) (h2 : t ≤ 10000000000) (hm : 1 ≤ m) (hm2 : m ≤ 12) :
    ∀ n, n = (t + 43200) / 86400 + 730119 - dby (yearOf ((t + 43200) / 86400 + 730119)) → daysBeforeMonth (yearOf ((t + 43200) / 86400 + 730119)) m ≤ n → n < daysBeforeMonth (yearOf ((t + 43200) / 86400 + 730119)) (m + 1) →
      dateOf t = (yearOf ((t + 43200) / 86400 + 730119), m, n - daysBeforeMonth (yearOf ((t + 43200) / 86400 + 730119)) m + 1, (t + 43200) % 86400) := by
  intro n en l1 l2
  have ey := year_spec h1 h2
  have e0 : dateOf t = (lastY ((t + 43200) / 86400) ((List.range 12).map fun (i : Nat) => (2000 + (t + 43200) / 86400 / 366 - 1) + (i : Int)) (2000 + (t + 43200) / 86400 / 366 - 1),
      monthOf (lastY ((t + 43200) / 86400) ((List.range 12).map fun (i : Nat) => (2000 + (t + 43200) / 86400 / 366 - 1) + (i : Int)) (2000 + (t + 43200) / 86400 / 366 - 1)) ((t + 43200) / 86400 - daysBeforeYear (lastY ((t + 43200) / 86400) ((List.range 12).map fun (i : Nat) => (2000 + (t + 43200) / 86400 / 366 - 1) + (i : Int)) (2000 + (t + 43200) / 86400 / 366 - 1))),
      ((t + 43200) / 86400 - daysBeforeYear (lastY ((t + 43200) / 86400) ((List.range 12).map fun (i : Nat) => (2000 + (t + 43200) / 86400 / 366 - 1) + (i : Int)) (2000 + (t + 43200) / 86400 / 366 - 1))) - daysBeforeMonth (lastY ((t + 43200) / 86400) ((List.range 12).map fun (i : Nat) => (2000 + (t + 43200) / 86400 / 366 - 1) + (i : Int)) (2000 + (t + 43200) / 86400 / 366 - 1))
        (monthOf (lastY ((t + 43200) / 86400) ((List.range 12).map fun (i : Nat) => (2000 + (t + 43200) / 86400 / 366 - 1) + (i : Int)) (2000 + (t + 43200) / 86400 / 366 - 1)) ((t + 43200) / 86400 - daysBeforeYear (lastY ((t + 43200) / 86400) ((List.range 12).map fun (i : Nat) => (2000 + (t + 43200) / 86400 / 366 - 1) + (i : Int)) (2000 + (t + 43200) / 86400 / 366 - 1)))) + 1,
      (t + 43200) % 86400) := rfl
  rw [e0, ← ey]
  generalize yearOf ((t + 43200) / 86400 + 730119) = y at *
  have e2 : (t + 43200) / 86400 - daysBeforeYear y = n := by
    rw [en, dby_eq]
    omega
  rw [e2]
  rw [dbml_eq] at l1 l2
  have e3 : monthOf y n = m := by
    rw [monL_eq]
    exact monL_is _ hm hm2 l1 l2
  rw [e3]
end SP



/-! ### a lambda of one parameter, handed to a def that halves -/
namespace SP
open PySem PySem.Spec PyProof.Rows L2 LamX
/-- one parameter, no other name of its own: captured ones and globals -/
structure LamS1 (sc scope : Scope) (x : Str) : Prop where
  kind : scope.kind = .function
  co : scope.isCoroutine = false
  gen : scope.isGenerator = false
  own : ∀ y ∈ scope.names, (y.2 = .local → y.1 = x) ∧ y.2 ≠ .cell
  par : scope.names.lookup x = some .local
  free : ∀ y ∈ scope.names, y.2 = .free → sc.names.lookup y.1 = some .cell ∨ sc.names.lookup y.1 = some .free
def lamS1B (sc scope : Scope) (x : Str) : Bool :=
  decide (scope.kind = .function) && !scope.isCoroutine && !scope.isGenerator && decide (scope.names.lookup x = some .local) && scope.names.all fun y => (!decide (y.2 = .local) || decide (y.1 = x)) && !decide (y.2 = .cell) && (!decide (y.2 = .free) || decide (sc.names.lookup y.1 = some .cell) || decide (sc.names.lookup y.1 = some .free))
theorem lamS1_by {sc scope : Scope} {x : Str} (h : lamS1B sc scope x = true) : LamS1 sc scope x := by
  unfold lamS1B at h
  simp only [Bool.and_eq_true, Bool.or_eq_true, Bool.not_eq_true', decide_eq_true_eq, decide_eq_false_iff_not, List.all_eq_true] at h
  obtain ⟨⟨⟨⟨h1, h2⟩, h3⟩, h5⟩, h4⟩ := h
  refine ⟨h1, h2, h3, fun y hy => ⟨fun e => ?_, (h4 y hy).1.2⟩, h5, fun y hy e => ?_⟩
  · rcases (h4 y hy).1.1 with z | z
    · exact absurd e z
    · exact z
  · rcases (h4 y hy).2 with (z | z) | z
    · exact absurd e z
    · exact .inl z
    · exact .inr z
theorem LamS1.has {X : Cx} {scope : Scope} {x : Str} (L : LamS1 X.env.scope scope x) (ok : X.Ok) : ∀ y ∈ scope.names, y.2 = .free → ∃ c, X.env.cells.lookup y.1 = some c := fun y hy e => by
  rcases L.free y hy e with k | k
  · exact ok.has _ (.inl k)
  · exact ok.has _ (.inr k)
/-- the context of the lambda's body: the parameter, then the maker's names -/
def lamCx1 (X : Cx) (A : Around) (outer : List Env) (s : Shared) (H : Hp) (scope : Scope) (f c' : Addr) (x : Str) : Cx where
  prog := X.prog
  w := X.w
  K := X.K
  mg := X.mg
  base := X.base
  A := A.deeper (lamEnv X scope s.heap.objs.size f c')
  N := x :: X.N
  s_0 := s
  H_0 := H
  env := lamEnv X scope s.heap.objs.size f c'
  outer := outer
  stack := lamEnv X scope s.heap.objs.size f c' :: outer
  ex := []
  fn := fun _ => false
  calm := true
  pn := []
  xe := fun _ _ => False
section
variable {X : Cx} {pins : List (Addr × Obj)} {σ : L2.St} {H HZ : Hp} {s s1 : Shared}
theorem lam_start1 {A : Around} {outer : List Env} {scope : Scope} {f c' : Addr} {h₁ : Heap} {tk : Nat} {x : Str} {v0 : V} {u0 : Value} (I : Inv X pins σ H s) (L : LamS1 X.env.scope scope x) (hx : x ∉ X.N) (r0 : RelV v0 u0) (e0 : Env0 X.prog X.w X.K X.mg X.base A outer s1 HZ) (hd : A.handled = none)
    (un : Un (frs X.stack) [] H HZ s.heap s1.heap) (hns : h₁.Ns s1.heap.objs.size fun y => ([(x, u0)] : List (Str × Value)).reverse.lookup y) (kp : ∀ b o, s1.heap.get? b = some o → h₁.get? b = some o) :
    Inv (lamCx1 X A outer s1 HZ scope f c' x) [] (some v0 :: σ) HZ { s1 with heap := h₁, toks := tk } := by
  have hfree := L.has I.ok
  have cm : ∀ {y c}, (cloFrom X.env.cells scope.names []).lookup y = some c → X.env.cells.lookup y = some c := fun {y c} e => by
    rcases cloFrom_mem (PySem.mem_of_lookup e) with hm | ⟨h1, h2⟩
    · cases hm
    · obtain ⟨c1, hc⟩ := hfree _ h1 rfl
      have hc : X.env.cells.lookup y = some c1 := hc
      have e2 : c = c1 := by
        rw [h2, hc] <;> rfl
      rw [e2]
      exact hc
  have look : ∀ {y}, scope.names.lookup y = some .free → ∃ c, (cloFrom X.env.cells scope.names []).lookup y = some c := fun {y} hl => by
    have hy : (y, NameKind.free) ∈ scope.names := PySem.mem_of_lookup hl
    exact mem_lookup (cloFrom_has (cells := X.env.cells) (acc := []) hy)
  have cellK : ∀ {c : Addr} {v : Option Value}, H c = none → s.heap.IsCell c v → h₁.IsCell c v := fun {c v} n ⟨o, ho, hd⟩ => by
    obtain ⟨sl, q⟩ := un.any ho n (by simp)
    exact ⟨_, kp _ _ q, hd⟩
  have noA : ∀ b : Addr, b ∉ (lamCx1 X A outer s1 HZ scope f c' x).ex := fun b z => absurd (show b ∈ ([] : List Addr) from z) (by simp)
  refine ⟨⟨e0.mod, L.kind, rfl, rfl, Nat.le_refl _, fun y z c e1 e2 => I.ok.inj y z c (cm e1) (cm e2), fun y hy => ?_, fun y c z _ => ?_, fun _ => hd, Around.frames_deeper e0.frames, .inr ⟨rfl, rfl⟩, fun b z => absurd z (noA b), e0.bs, e0.bsz, fun b _ _ => noA b,
      fun b z => absurd z (noA b), e0.funs, e0.frf⟩,
    rfl, e0.bare, Un.kept kp, ⟨_, hns, fun i y v e1 e2 e3 => ?_⟩, fun y c e => ?_, e0.hok.fresh (Nat.le_refl _), fun y c e => ?_, fun q hq => absurd (show q ∈ ([] : List (Addr × Obj)) ++ [] from hq) (by simp), e0.hok.kept kp, congrArg (· + 1) I.len⟩
  · have hy : scope.names.lookup y = some .cell ∨ scope.names.lookup y = some .free := hy
    rcases hy with hy | hy
    · exact absurd rfl (L.own _ (PySem.mem_of_lookup hy)).2
    · exact look hy
  · have z : false = true := z
    cases z
  · cases i with
    | zero =>
      have e1 : x = y := Option.some.inj e1
      have e2 : v0 = v := Option.some.inj (Option.some.inj e2)
      subst e1
      subst e2
      refine ⟨u0, r0, .inl ⟨L.par, ?_⟩⟩
      show List.lookup x [(x, u0)] = some u0
      simp [List.lookup]
    | succ i =>
      have e1 : X.N[i]? = some y := e1
      have e2 : σ[i]? = some (some v) := e2
      have e3 : Vis scope y := e3
      have ne : y ≠ x := fun z => hx (by rw [← z]; exact List.mem_of_getElem? e1)
      rcases e3 with k | k | k
      · exact absurd ((L.own _ (PySem.mem_of_lookup k)).1 rfl) ne
      · exact absurd rfl (L.own _ (PySem.mem_of_lookup k)).2
      · obtain ⟨m, hn, hl⟩ := I.loc
        have hvis : Vis X.env.scope y := (L.free _ (PySem.mem_of_lookup k) rfl).elim (fun k => .inr (.inl k)) (fun k => .inr (.inr k))
        obtain ⟨w', r, q⟩ := hl i y v e1 e2 hvis
        obtain ⟨c2, h2⟩ := look k
        refine ⟨w', r, .inr ⟨.inr k, c2, h2, ?_⟩⟩
        have c1 := cm h2
        rcases q with ⟨k', _⟩ | ⟨_, c3, e', z⟩
        · have k' : X.env.scope.names.lookup y = some .local := k'
          rcases L.free _ (PySem.mem_of_lookup k) rfl with k2 | k2 <;> rw [show X.env.scope.names.lookup y = _ from k2] at k' <;> cases k'
        · rw [c1] at e'
          cases e'
          exact cellK (I.freeC y _ c1) z
  · obtain ⟨w', z⟩ := I.cell y c (cm e)
    exact ⟨w', cellK (I.freeC y c (cm e)) z⟩
  · obtain ⟨v, o, ho, hd⟩ := I.cell y c (cm e)
    exact un.free c o ho (I.freeC y c (cm e)) (by simp)
/-- x(e) in the def that got the lambda -/
theorem pe_act1 {CXg : CXT} {Eg : XK} {Ng : List Str} {qg : Str} {sg : Scope} {g f c' : Addr} {cdg pm ctv : Value} {params : Arguments} {body : Expr} {scope : Scope} {k i : Nat} {a x : Str} {tb : TE} {p1 p2 : Pos} {e : Expr} {te : TA}
    (I : Inv X pins σ H s) (L : LamS1 X.env.scope scope x) (hx : x ∉ X.N) (hf : s.heap.get? f = some (PySem.W.kla_obj "<lambda>" (X.env.qual ++ "<lambda>") params body scope (cloFrom X.env.cells scope.names []) pm c' ctv)) (hfn : H f = none) (hfr : f ∉ frs X.stack)
    (hbind : ∀ u : Value, bindArgs (PySem.W.kla_fn "<lambda>" (X.env.qual ++ "<lambda>") params body scope (cloFrom X.env.cells scope.names []) pm (.ref c') ctv) ⟨[u], []⟩ = pure [(x, u)])
    (hr : Room (k + 1) (X.A.deeper (envOfC qg sg s.heap.objs.size g cdg)))
    (hbody : ∀ (A : Around) (outer : List Env) (s : Shared) (H : Hp), Room k (A.deeper (lamEnv X scope s.heap.objs.size f c')) → PE (lamCx1 X A outer s H scope f c' x) body tb)
    (hN : Ng[i]? = some a) (hv : Vis sg a) (ha : PA (cxOf CXg X.prog X.w X.K X.mg X.base Ng qg sg g cdg X.A X.stack s H Eg).nox [e] te) (hd : (a == ("__debug__" : Str)) = false := by decide) (hcd : (a == ("__classdict__" : Str)) = false := by decide)
    (he : starEach [e] (envOfC qg sg s.heap.objs.size g cdg) = (false, eval e (envOfC qg sg s.heap.objs.size g cdg)) :: starEach [] (envOfC qg sg s.heap.objs.size g cdg) := by rfl) :
    PE (cxOf CXg X.prog X.w X.K X.mg X.base Ng qg sg g cdg X.A X.stack s H Eg).nox (.Call (.Name a p1) [e] [] p2)
      (fun σZ HZ Q => σZ[i]? = some (some (.ref f)) ∧ te σZ HZ fun vs HZ1 => ∃ v, vs = [v] ∧ HZ1 c' = some (CodeO c' (X.env.qual ++ "<lambda>")) ∧ tb (some v :: σ) HZ1 Q) := by
  refine ⟨fun pinsZ sZ σZ HZ Q IZ h => ?_⟩
  obtain ⟨hs, ht⟩ := h
  refine wpAny_Call_Name_kw (thn ((pe_var (pos := p1) (i := i) hN hv hd hcd).run pinsZ sZ σZ HZ (fun v H1 => v = .ref f ∧ H1 = HZ) IZ ⟨.ref f, hs, rfl, rfl⟩) fun u s1 ⟨v, H1, I1, r1, q1⟩ => ?_)
  obtain ⟨ev, eH⟩ := q1
  subst ev
  rw [eH] at I1
  obtain rfl : u = Value.ref f := r1
  have of1 : ∀ {pn σ' H' s'}, Inv (cxOf CXg X.prog X.w X.K X.mg X.base Ng qg sg g cdg X.A X.stack s H Eg).nox pn σ' H' s' → s'.heap.get? f = some (PySem.W.kla_obj "<lambda>" (X.env.qual ++ "<lambda>") params body scope (cloFrom X.env.cells scope.names []) pm c' ctv) :=
    fun I' => I'.base.keep f _ hf hfn hfr (fun z => nomatch (show f ∈ ([] : List Addr) from z))
  refine PySem.W.callWith_F (first := []) ⟨_, _, _, _, of1 I1⟩ (thn (ha.run p2 pinsZ s1 σZ HZ _ I1 ht) fun us s2 ⟨vs, H2, I2, r2, v2, ev2, hc, q⟩ => ⟨⟨_, _, _, _, of1 I2⟩, ?_⟩) he rfl
  subst ev2
  obtain ⟨u2, eu, rv2⟩ := vals1 r2
  subst eu
  show wpAny _ _ (call (.ref f) [u2]) _ _ _
  have un : Un (frs X.stack) [] H H2 s.heap s2.heap := I2.base
  obtain ⟨⟨oc, vs, t, hoc, hdc, hvc⟩, _, _⟩ := I2.hok c' _ hc
  have hfree := L.has I.ok
  have rc : codeAny (model X.prog X.w) (X.A.deeper (envOfC qg sg s.heap.objs.size g cdg)) (.call (.ref f) ⟨[u2], []⟩) (fun r s' => ∃ u, r = .ok (.ret u) ∧ CE (envOfC qg sg s.heap.objs.size g cdg :: X.stack) X.prog X.w H2 s2 Q u s') s2 := by
    refine PySem.W.kla_callFunE hr.depth (of1 I2) rfl L.co L.gen rfl ⟨c', oc, vs, t, rfl, hoc, hdc, hvc⟩ ?_
    rw [hbind]
    refine wpAny_pure (wpAny_newFunctionEnv (fun y hy => (L.own y hy).2) (fun y hy => by
      obtain rfl : y = (x, u2) := List.mem_singleton.mp hy
      exact L.par) (fun h₁ hns hsb => ⟨I2.nolimit.fresh _ hsb, ?_⟩) L.kind)
    show codeAny _ _ (.expr body (lamEnv X scope s2.heap.objs.size f c')) _ _
    have kp : ∀ b o, s2.heap.get? b = some o → h₁.get? b = some o := fun b o e => hsb.extBut b o (Nat.ne_of_lt (Heap.lt_size e)) (Heap.get?_push_of_some _ e)
    have J : Inv (lamCx1 X (X.A.deeper (envOfC qg sg s.heap.objs.size g cdg)) (envOfC qg sg s.heap.objs.size g cdg :: X.stack) s2 H2 scope f c' x) [] (some v2 :: σ) H2 { s2 with heap := h₁, toks := s2.toks + ([(x, u2)] : List (Str × Value)).length } :=
      lam_start1 I L hx rv2 I2.env0 hr.hd un hns kp
    refine PySem.W.kla_codeExpr (wpAny_mono ((hbody _ _ s2 H2 (hr.deeper _)).run [] _ _ H2 Q J q) (fun v s' hq => ?_) fun e s' hq => (show False from hq).elim)
    obtain ⟨w', H', J', rv, q⟩ := hq
    exact ⟨v, rfl, w', H', J'.os, J'.bare, J'.base, J'.hok, rv, q⟩
  refine wpAny_call (codeAny_mono rc fun r s' hq => ?_)
  obtain ⟨u, rfl, hq⟩ := hq
  exact I2.after hq
end
/-! ### halve(lambda x: body, e1, e2) -/
/-- the reading of it: the two bounds, the test, which changes nothing -/
def tLamH (T : List (Addr × Str)) (tb : TE) (ta : TA) : TE := fun σ H Q => Tabs T H ∧ ∀ H1, ExtN H H1 → Tabs T H1 → ta σ H1 fun vs H2 => ∃ (lo hi : Int) (p : Int → Bool) (F : Nat), vs = [.int lo, .int hi] ∧ hi - lo ≤ 2 ^ F ∧ H2 = H1 ∧
  (∀ m : Int, lo < m → m < hi → ∀ Q' : VK, Q' (.bl (p m)) H1 → tb (some (.int m) :: σ) H1 Q') ∧ Q (.int (Dz01.bisect p F lo hi)) H1
/-- the def that halves: a calls the test -/
def Halves (X : Cx) (Ng : List Str) (x : Str) (sg : Scope) (g : Addr) (cdg : Value) (bg : List Stmt) (a b c : Str) (k : Nat) : Prop :=
  ∀ (f : Addr) (s : Shared) (H : Hp) (lo hi : Int) (p : Int → Bool) (F : Nat) (Q : VK) (G : V → Hp → VK → Prop), hi - lo ≤ 2 ^ F →
    (∀ (m : Int) (Q' : VK), lo < m → m < hi → Q' (.bl (p m)) H → G (.int m) H Q') →
    (∀ (p1 p2 : Pos) (e : Expr) (te : TA), PA (cxOf C8.CX0 X.prog X.w X.K X.mg X.base Ng x sg g cdg X.A X.stack s H C8.E0).nox [e] te →
      (starEach [e] (envOfC x sg s.heap.objs.size g cdg) = (false, eval e (envOfC x sg s.heap.objs.size g cdg)) :: starEach [] (envOfC x sg s.heap.objs.size g cdg)) →
      PE (cxOf C8.CX0 X.prog X.w X.K X.mg X.base Ng x sg g cdg X.A X.stack s H C8.E0).nox (.Call (.Name a p1) [e] [] p2) (fun σZ HZ Q => σZ[0]? = some (some (.ref f)) ∧ te σZ HZ fun vs HZ1 => ∃ v, vs = [v] ∧ G v HZ1 Q)) →
    Q (.int (Dz01.bisect p F lo hi)) H →
    ∃ t, PSs (cxOf C8.CX0 X.prog X.w X.K X.mg X.base Ng x sg g cdg X.A X.stack s H C8.E0).nox bg t ∧ t { nx := fun _ H' => Q .non H', rt := Q } (L2.start Ng [.ref f, .int lo, .int hi]) H
section
variable {X : Cx}
theorem pe_lamH {T : List (Addr × Str)} {x a b c y : Str} {g co P : Addr} {k : Nat} {pg : Arguments} {bg : List Stmt} {sg : Scope} {dV kV doc pm cdv ct oc : Value} {an od : Option Addr} {osl : Array (Option Value)} {Ng : List Str}
    {params : Arguments} {body : Expr} {scope : Scope} {tb : TE} {ta : TA} {e1 e2 : Expr} {p lpos pos : Pos} (hg : Gl X x) (hm : X.mg x = some (.ref g)) (hk : PySem.W.keepIn X.K (.ref g) = true)
    (lk : X.K.lookup g = some ⟨oc, od, .func (PySem.W.fnOf x x pg bg sg dV kV doc pm an cdv ct), osl⟩) (hcg : PySem.W.codeIn X.K cdv x = true) (hb : L2.Binds X.K (PySem.W.fnOf x x pg bg sg dV kV doc pm an cdv ct) [a, b, c] []) (Sg : FnScope Ng [a, b, c] sg) (hNg : Ng[0]? = some a) (hva : Vis sg a)
    (hG : Halves X Ng x sg g cdv bg a b c k)
    (TB : TabB X.base X.mg co P) (hcode : X.env.code = .ref co) (hmT : (P, X.env.qual ++ "<lambda>") ∈ T) (hu : ∀ p ∈ T, p.1 = P → p.2 = X.env.qual ++ "<lambda>") (hr : Room (k + 2) X.A) (L : LamS1 X.env.scope scope y) (hy : y ∉ X.N) (hdef : defaultsOf params X.env = ([], []))
    (hbind : ∀ (q : Str) (cl : List (Str × Addr)) (pm cv ctv u : Value), bindArgs (PySem.W.kla_fn "<lambda>" q params body scope cl pm cv ctv) ⟨[u], []⟩ = pure [(y, u)])
    (hbody : ∀ (A : Around) (outer : List Env) (s : Shared) (H : Hp) (f c' : Addr), Room k (A.deeper (lamEnv X scope s.heap.objs.size f c')) → PE (lamCx1 X A outer s H scope f c' y) body tb)
    (ha : PA X [e1, e2] ta) (hpl : (backTo pos (starEach [e1, e2] X.env)).any (·.1) = false := by rfl)
    (hdb : (x == ("__debug__" : Str)) = false := by decide) (hd : (a == ("__debug__" : Str)) = false := by decide) (hcd : (a == ("__classdict__" : Str)) = false := by decide) :
    PE X (.Call (.Name x p) [.Lambda params body scope lpos, e1, e2] [] pos) (tLamH T tb ta) := by
  refine ⟨fun pins s σ H Q I h => ?_⟩
  obtain ⟨hT, h⟩ := h
  refine wpAny_Call_Name_kw (ld_glob I hg hm ?_ hdb)
  refine PySem.W.callWith_K (h₀ := X.base) I.ok.mod.kin hk ?_ (by rfl) hpl
  show wpAny _ _ (spliced ((false, eval (.Lambda params body scope lpos) X.env) :: backTo pos (starEach [e1, e2] X.env))) _ _ s
  refine Calls.spliced_cons (lam_make2 I TB hcode hmT hu hT hdef (L.has I.ok) fun f c' pm' ctv H1 s' I1 eN T1 hf hfn hfr hco => ?_)
  have pinF : s'.heap.get? f = some (PySem.W.kla_obj "<lambda>" (X.env.qual ++ "<lambda>") params body scope (cloFrom X.env.cells scope.names []) pm' c' ctv) := hf
  have neL : f ≠ X.env.locals := fun z => by
    obtain ⟨m, ⟨o, es, ep, ho, hd', _⟩, _⟩ := I1.loc
    rw [← z, pinF] at ho
    cases ho
    cases hd'
  have nfs : f ∉ X.fs := fun z => by
    rcases I1.ok.stk with e | ⟨e, hfe⟩
    · rw [e] at hfr
      exact hfr z
    · rw [e] at hfr
      refine hfr ?_
      unfold frs
      rw [List.filterMap_cons, hfe]
      exact List.mem_cons_of_mem _ z
  have I1p : Inv X ((f, PySem.W.kla_obj "<lambda>" (X.env.qual ++ "<lambda>") params body scope (cloFrom X.env.cells scope.names []) pm' c' ctv) :: pins) σ H1 s' :=
    ⟨I1.ok, I1.os, I1.bare, I1.base, I1.loc, I1.cell, I1.free, I1.freeC, fun q hq => by
      rcases List.mem_append.mp hq with z | z
      · exact I1.pin q (List.mem_append.mpr (.inl z))
      · rcases List.mem_cons.mp z with z | z
        · subst z
          exact ⟨pinF, hfn, neL, nfs, fun v z => by cases z⟩
        · exact I1.pin q (List.mem_append.mpr (.inr z)), I1.hok, I1.len⟩
  refine thn (ha.run pos _ s' σ H1 _ I1p (h H1 eN T1)) fun us s2 ⟨vs, H2, I2p, r2, lo, hi, tst, F, ev, hF, eH, hp, hQ⟩ => ?_
  subst eH
  subst ev
  have I2 : Inv X pins σ H2 s2 := ⟨I2p.ok, I2p.os, I2p.bare, I2p.base, I2p.loc, I2p.cell, I2p.free, I2p.freeC, fun q hq => by
      refine I2p.pin q ?_
      rcases List.mem_append.mp hq with z | z
      · exact List.mem_append.mpr (.inl z)
      · exact List.mem_append.mpr (.inr (List.mem_cons_of_mem _ z)), I2p.hok, I2p.len⟩
  have hf2 : s2.heap.get? f = some (PySem.W.kla_obj "<lambda>" (X.env.qual ++ "<lambda>") params body scope (cloFrom X.env.cells scope.names []) pm' c' ctv) := (I2p.pin _ (List.mem_append.mpr (.inr (List.mem_cons_self ..)))).1
  obtain ⟨w1, w2, eus, rv1, rv2⟩ := vals2 r2
  subst eus
  refine ⟨I2.kIn, ?_⟩
  have rc : codeAny (model X.prog X.w) X.A (.call (.ref g) ⟨[.ref f, w1, w2], []⟩) (CR C8.CX0 X.stack X.prog X.w H2 s2 Q C8.E0) s2 := by
    refine run_ofS (N := Ng) (ps := [a, b, c]) (us := [.ref f, w1, w2]) (vs := [.ref f, .int lo, .int hi]) lk hcg Sg hr I2.env0 (hb s2 [.ref f, w1, w2] I2.kIn rfl) (.cons rfl (.cons rv1 (.cons rv2 .nil))) rfl fun hr' => ?_
    obtain ⟨t', ht', hq'⟩ := hG f s2 H2 lo hi tst F Q (fun v HZ1 Q' => HZ1 c' = some (CodeO c' (X.env.qual ++ "<lambda>")) ∧ tb (some v :: σ) HZ1 Q') hF (fun m Q' h1 h2 q => ⟨hco, hp m h1 h2 Q' q⟩) (fun p1 p2 e te hte hse =>
      pe_act1 (i := 0) (p1 := p1) (p2 := p2) I2 L hy hf2 hfn hfr (fun u => hbind _ _ _ _ _ u) hr' (fun A outer s H hr2 => hbody A outer s H f c' hr2) hNg hva hte hd hcd hse) hQ
    exact ⟨t', ht'.nox, hq'⟩
  refine wpAny_call (codeAny_mono rc fun r s3 hq => ?_)
  cases r with
  | error e => exact (show False from hq).elim
  | ok fl =>
    cases fl with
    | ret u => exact I2.after hq
    | next => exact False.elim hq
    | brk => exact False.elim hq
    | cont => exact False.elim hq
end
end SP

/-! ### three rules: xs.extend(a tuple); for i, x in enumerate(xs, start=k); for a, c in zip(xs, text) -/
namespace SP
open PySem PySem.Spec PyProof.Rows L2
open PySem.AutoSeq1 in
set_option maxRecDepth 8000 in
theorem extend_tup (l : Addr) (items : Array Value) (n : Nat) (b : Addr) (items2 : Array Value) (n2 : Nat) (od : Option Addr) (sl : Array (Option Value)) (hs0 : ¬(!items.isEmpty && Builtin.List.listTooLong (items.size + items2.size)) = true) (hs1 : items.size ≤ sizeLine) (hs2 : items.size + items2.size ≤ sizeLine + 1) :
    Meets (Builtin.«list.extend» ⟨[.ref l, .ref b], []⟩) (fun _ R s => s.heap.get? l = some { cls := .type "list", dict := none, data := .seq items n, slots := #[] } ∧ s.heap.get? b = some { cls := .type "tuple", dict := od, data := .seq items2 n2, slots := sl } ∧ R (.ok (.ret Value.none)) { s with heap := s.heap.update l (Obj.mapSeq fun x => x ++ items2), toks := s.toks }) :=
  .of_wp fun prog w A R s h => by
    obtain ⟨hp, g, d, tk, os⟩ := s; obtain ⟨hl, hb, h⟩ := h; have f1 := idx_int; have f2 := PySem.AutoSeq1.sub_tuple_tuple; have f3 := PySem.AutoSeq1.sub_list_list; have f4 := PySem.AutoSeq1.sub_tuple_list; have f5 := PySem.AutoSeq1.sub_list_tuple;
    have hz' : (items ++ items2).size ≤ sizeLine + 1 := by rw [Array.size_append]; exact hs2
    wp_walk using (wpAny_updateSeq hl rfl (hz := hs1) (_hz' := hz')), wpAny_loadPart' hl, wpAny_loadPart' hb; exact ⟨_, rfl, h⟩
section
variable {X : Cx}
def rExtendT : V → List V → Hp → VK → Prop := fun x vs H Q => ∃ l b xs zs, x = .ref l ∧ vs = [.ref b] ∧ H l = some (.lst xs) ∧ H b = some (.tup zs) ∧ xs.length + zs.length ≤ sizeLine ∧ Q .non (upd H l (.lst (xs ++ zs)))
theorem mt_extendT : MtM X "list.extend" rExtendT := by
  intro pins s σ H x vs v us Q I rx rv h
  obtain ⟨l, b, xs, zs, rfl, rfl, hH, hB, hz, q⟩ := h
  cases rx
  obtain ⟨u, rfl, ru⟩ := rv.one
  cases ru
  obtain ⟨z, its, n, r, hl, e⟩ := I.lstM hH
  obtain ⟨z2, its2, r2, o2, e2, hc2, n2, hd2⟩ := I.hok b _ hB
  have hl2 := r2.length
  obtain ⟨c2, d2, dt2, sl2⟩ := o2
  simp only at hc2 hd2
  subst hc2
  subst hd2
  have hsz : its.toArray.size + its2.toArray.size ≤ sizeLine := by rw [List.size_toArray, List.size_toArray]; omega
  have hlong : ¬ (!its.toArray.isEmpty && Builtin.List.listTooLong (its.toArray.size + its2.toArray.size)) = true := by
    rw [notLongL hsz, Bool.and_false]
    exact Bool.false_ne_true
  refine call_meets F.slot_list_extend ⟨_, e, rfl⟩ F.entry_list_extend (F.args_list_extend_2 _ _)
    (extend_tup l its.toArray n b its2.toArray n2 d2 sl2 hlong (by rw [List.size_toArray]; omega) (by omega)) ⟨e, e2, ?_⟩
  refine ⟨.non, _, I.lset (its' := its ++ its2) hH e (by simp) (r.append r2) ?_, rfl, q⟩
  rw [List.length_append]
  omega
/-- the list at a, an int ahead of each item: k, k + 1, .. -/
def IteC (K : PySem.W.Frag) (k : Int) (a : Addr) : It :=
  ⟨fun i H => ∃ (xs : List V) (x : V), SqL K H a xs ∧ xs[i]? = some x, fun i H v H' => ∃ T x, v = .ref T ∧ H T = none ∧ H' = upd H T (.tup [.int (k + (i : Nat)), x]) ∧ ∀ xs, SqL K H a xs → xs[i]? = some x, fun i H => ∃ xs : List V, SqL K H a xs ∧ xs.length = i⟩
theorem turn_enumC {P : Program} {w : World} {K : PySem.W.Frag} {elts : List Expr} {kk : Nat} {tpos : Pos} (k : Int) (a e it : Addr) (hae : a ≠ it) (hae2 : a ≠ e) :
    Turn P w K (.Tuple elts kk tpos) (IteC K k a) [e, it] e (fun i h => (∃ old, IsEnum h e it (k + ((i : Nat) : Int)) old) ∧ h.IsListIter it a i ∧ e ≠ it) where
  mem := by simp
  obj := fun i h st b hb => by
    obtain ⟨⟨old, he⟩, ⟨o, ho, hc, hd⟩, _⟩ := st
    have e' : b = e ∨ b = it := by simpa using hb
    rcases e' with z | z
    · rw [z]; exact ⟨_, he, fun v q => nomatch q⟩
    · rw [z]; exact ⟨o, ho, fun v q => by rw [hd] at q; cases q⟩
  keep := fun i h h' st k => let ⟨⟨old, he⟩, hi, hne⟩ := st; ⟨⟨old, k e (by simp) _ he⟩, hi.at fun o q => k it (by simp) o q, hne⟩
  item := by
    intro X hP hw hK hc i pins s σ H E I hf st hg
    subst hP hw hK
    obtain ⟨⟨old, he⟩, hit, hne⟩ := st
    obtain ⟨xs, x, hq, hx⟩ := hg
    obtain ⟨its, rv, p, hz⟩ := I.list hq
    obtain ⟨u, hu, ru⟩ := rv.get hx
    have hel : e < s.heap.objs.size := Heap.lt_size he
    have hil : it < s.heap.objs.size := by obtain ⟨_, q, _⟩ := hit; exact Heap.lt_size q
    have hh : X.A.in1.handled = none := I.ok.hd hc
    have W := WalksT.enumFrom (prog := X.prog) (w := X.w) (A := X.A) k (Draws.list (prog := X.prog) (w := X.w) (A := X.A.in1) hh it a hae its.toArray) e hne (by simp [hne, hae2, Ne.symm hae2]) (by simp)
    have hlt : i < its.toArray.size := by
      have := (List.getElem?_eq_some_iff.mp hu).1
      simpa using this
    refine W.item i s _ _ hlt ⟨⟨old, he⟩, hit, p.isList⟩ fun T vals h' tk hv hT hTup hmid hk => ⟨_, rfl, ?_⟩
    refine W.go elts kk tpos i T _ _ _ hmid fun h'' hst hk2 => ?_
    obtain ⟨t, x', hx', hvals⟩ := hv
    have hxu : x' = u := by
      have h1 : its.toArray[i]? = some x' := hx'
      have h2 : its.toArray[i]? = some u := by simpa using hu
      rw [h1] at h2
      exact Option.some.inj h2
    subst hxu
    subst hvals
    have hTw : T ∉ [e, it] := W.apart i T h' hmid
    obtain ⟨oT, hoT, hcT, nT, hdT⟩ := hTup
    have hTup2 : ∃ o, h''.get? T = some o ∧ o.cls = .type "tuple" ∧ ∃ n, o.data = .seq #[.int (k + (i : Int)) t, x'] n := ⟨oT, hk2 T _ hTw hoT, hcT, nT, hdT⟩
    have kp : ∀ b o, b ∉ [e, it] → s.heap.get? b = some o → h''.get? b = some o := fun b o hb q => hk2 b o hb (hk b o hb q)
    have new : ObjOk X.prog X.w (upd H T (.tup [.int (k + (i : Nat)), x])) h'' T (.tup [.int (k + (i : Nat)), x]) :=
      ⟨by show 2 ≤ sizeLine; decide, [.int (k + (i : Int)) t, x'], .cons ⟨_, rfl⟩ (.cons ru .nil), hTup2⟩
    have I1 : Inv X pins σ (upd H T (.tup [.int (k + (i : Nat)), x])) { s with heap := h'', toks := tk } :=
      I.turnedNew (ch := [e, it]) kp hf hT new
    obtain ⟨⟨old2, he2⟩, hit2, _⟩ := hst
    refine ⟨.ref T, _, I1, rfl, ⟨T, x, rfl, I.hok.fresh hT, rfl, fun ys hy => by rw [I.list_inj hy hq]; exact hx⟩, ⟨⟨old2, he2⟩, hit2, hne⟩, fun b hb => ?_⟩
    have hb' : b < s.heap.objs.size := by
      have e' : b = e ∨ b = it := by simpa using hb
      rcases e' with z | z
      · rw [z]; exact hel
      · rw [z]; exact hil
    rw [upd_ne (Nat.ne_of_lt (Nat.lt_of_lt_of_le hb' hT))]
    exact (hf b hb).1
  done := by
    intro X hP hw hK hc i pins s σ H E I hf st hg
    subst hP hw hK
    obtain ⟨⟨old, he⟩, hit, hne⟩ := st
    obtain ⟨xs, hq, hx⟩ := hg
    obtain ⟨its, rv, p, hz⟩ := I.list hq
    have hl := rv.length
    have hh : X.A.in1.handled = none := I.ok.hd hc
    have W := WalksT.enumFrom (prog := X.prog) (w := X.w) (A := X.A) k (Draws.list (prog := X.prog) (w := X.w) (A := X.A.in1) hh it a hae its.toArray) e hne (by simp [hne, hae2, Ne.symm hae2]) (by simp)
    have hn : i = its.toArray.size := by
      rw [List.size_toArray]
      omega
    subst hn
    exact W.done s _ _ ⟨⟨old, he⟩, hit, p.isList⟩ fun h' tk hk => ⟨rfl, I.turnedL (ch := [e, it]) hk hf⟩
  self := fun A i s Q E st h => let ⟨⟨_, he⟩, _⟩ := st; wpAny_pyIter_enum he h
theorem callWith_typeK {M : Model} {A : Around} {E : Value → Shared → Prop} {s : Shared} {pos : Pos} {T : String} {first : List Value} {args : List (Bool × Sem Value)} {kw : List (Option Str × Sem Value)} {Q : Value → Shared → Prop} (hplain : (args.any (·.1) || kw.any (·.1.isNone)) = false)
    (h : wpAny M A (evalArgs (.type T) true args kw) (fun a s₁ => wpAny M A (call (.type T) (first ++ a.pos) a.kw) Q E s₁) E s) :
    wpAny M A (callWith pos (.type T) first args kw) Q E s := by
  unfold callWith
  refine wpAny_bind (wpAny_holding (wpAny_mono h (fun a s₁ h₁ => wpAny_bind (wpAny_standAt ?_)) fun _ _ x => x))
  simp only [hplain]
  refine wpAny_bind (wpAny_pure ?_)
  exact wpAny_bind (wpAny_mono h₁ (fun r s₂ hr => wpAny_bind (wpAny_holding (wpAny_point (wpAny_pure hr)))) fun _ _ x => x)
def iEnumK (K : PySem.W.Frag) (ta tk : TA) : TI := fun σ H R => ta σ H fun vs H1 => tk σ H1 fun zs H2 => ∃ a xs k, vs = [.ref a] ∧ zs = [.int k] ∧ -(2 ^ 63) ≤ k ∧ k < 2 ^ 63 ∧ SqL K H2 a xs ∧ R (IteC K k a) H2
theorem pi_enumK {e ek : Expr} {ta tk : TA} {p pos tpos kpos : Pos} {elts : List Expr} {kk : Nat} (hg : Gl X "enumerate") (hm : X.mg "enumerate" = none) (ha : PA X [e] ta) (hk : PK X [⟨some "start", ek, kpos⟩] tk)
    (hs : starEach [e] X.env = (false, eval e X.env) :: starEach [] X.env := by rfl) (hall : (backToKw pos (keywordEach [⟨some "start", ek, kpos⟩] X.env)).all (·.1.isSome) = true := by rfl) (hks : (backToKw pos (keywordEach [⟨some "start", ek, kpos⟩] X.env)).filterMap (·.1) = [Str.ofString "start"] := by rfl)
    (hpl : ((backTo pos (starEach [e] X.env)).any (·.1) || (backToKw pos (keywordEach [⟨some "start", ek, kpos⟩] X.env)).any (·.1.isNone)) = false := by rfl) :
    PI X (.Tuple elts kk tpos) (.Call (.Name "enumerate" p) [e] [⟨some "start", ek, kpos⟩] pos) (iEnumK X.K ta tk) := by
  refine ⟨fun pins s σ H R I h => ?_⟩
  refine wpAny_Call_Name_kw (ld_blt I hg hm boot_enumerate (callWith_typeK hpl (PyProof.Rows.evalArgs_kw2 hall (thn (ha.run pos pins s σ H _ I h) fun us s1 ⟨vs, H1, I1, r1, q1⟩ => thn (hk.run pos pins s1 σ H1 _ I1 q1) fun ws s2 ⟨zs, H2, I2, r2, q2⟩ => ?_) hs)))
  obtain ⟨a, xs, k, e1, e2, k1, k2, hq, q⟩ := q2
  subst e1
  subst e2
  obtain ⟨u, eu, ru⟩ := vals1 r1
  obtain ⟨w', ew, rw'⟩ := vals1 r2
  subst eu
  subst ew
  obtain rfl : u = Value.ref a := ru
  obtain ⟨tw, rfl⟩ := rw'
  obtain ⟨its, rv, p', hz⟩ := I2.list hq
  rw [hks]
  show wpAny _ _ (call (.type "enumerate") [.ref a] [(Str.ofString "start", .int k tw)]) _ _ s2
  have hlt : a < s2.heap.objs.size := p'.lt
  refine enum_begins_start (begins_list a its.toArray) p'.isList k1 k2 fun h' he hit hsz hk => wpAny_pyIter_enum he ?_
  have I3 : Inv X pins σ H2 { s2 with heap := h' } := I2.kept (t' := s2.toks) hk
  have z0 : k + ((0 : Nat) : Int) = k := by omega
  refine ⟨s2.heap.objs.size + 1, [s2.heap.objs.size + 1, s2.heap.objs.size], _, _, H2, rfl, I3, turn_enumC k a (s2.heap.objs.size + 1) s2.heap.objs.size (Nat.ne_of_lt hlt) (Nat.ne_of_lt (Nat.lt_succ_of_lt hlt)), ⟨⟨.none, by rw [z0]; exact he⟩, ⟨_, hit, rfl, rfl⟩, Nat.succ_ne_self _⟩, fun b hb => ?_, q⟩
  have e' : b = s2.heap.objs.size + 1 ∨ b = s2.heap.objs.size := by simpa using hb
  have hle : s2.heap.objs.size ≤ b := by
    rcases e' with z | z
    · rw [z]; exact Nat.le_add_right _ _
    · rw [z]; exact Nat.le_refl _
  exact I2.fpOk hle (I2.hok.fresh hle)
/-- the list at a and the text x, of one length -/
def ItzS (K : PySem.W.Frag) (a : Addr) (x : Str) : It :=
  ⟨fun i H => ∃ (xs : List V) (y : V) (c : Nat), SqL K H a xs ∧ xs[i]? = some y ∧ x.cps[i]? = some c, fun i H v H' => ∃ T y c, v = .ref T ∧ H T = none ∧ H' = upd H T (.tup [y, .str ⟨#[c]⟩]) ∧ (∀ xs, SqL K H a xs → xs[i]? = some y) ∧ x.cps[i]? = some c,
    fun i H => ∃ xs : List V, SqL K H a xs ∧ xs.length = i ∧ x.cps.size = i⟩
theorem turn_zipS {P : Program} {w : World} {K : PySem.W.Frag} {elts : List Expr} {kk : Nat} {tpos : Pos} {x : Str} {t : Tok} {a z TI TO i1 i2 : Addr} (S : ZipSep2 z TI TO i1 i2 [i1, a] [i2]) (hai : a ≠ i1) :
    Turn P w K (.Tuple elts kk tpos) (ItzS K a x) [z, TI, TO, i1, i2] z (fun i h => IsZip h z TI TO .none ∧ IsTupOf2 h TI (.ref i1) (.ref i2) ∧ (∃ u v, IsTupOf2 h TO u v) ∧ h.IsListIter i1 a i ∧ h.IsStrIter i2 (strIterType x) x t i) where
  mem := by simp
  obj := fun i h st c hc => by
    obtain ⟨hz, hTI, ⟨x, y, hTO⟩, ⟨o1, e1, _, d1⟩, ⟨o2, e2, _, d2⟩⟩ := st
    have e' : c = z ∨ c = TI ∨ c = TO ∨ c = i1 ∨ c = i2 := by simpa using hc
    rcases e' with q | q | q | q | q
    · rw [q]; exact ⟨_, hz, fun v q => nomatch q⟩
    · rw [q]; exact ⟨_, hTI, fun v q => nomatch q⟩
    · rw [q]; exact ⟨_, hTO, fun v q => nomatch q⟩
    · rw [q]; exact ⟨o1, e1, fun v q => by rw [d1] at q; cases q⟩
    · rw [q]; exact ⟨o2, e2, fun v q => by rw [d2] at q; cases q⟩
  keep := fun i h h' st k => by
    obtain ⟨hz, hTI, ⟨x, y, hTO⟩, h1, ⟨o2, e2, r2⟩⟩ := st
    exact ⟨k z (by simp) _ hz, k TI (by simp) _ hTI, ⟨x, y, k TO (by simp) _ hTO⟩, h1.at fun o q => k i1 (by simp) o q, ⟨o2, k i2 (by simp) o2 e2, r2⟩⟩
  item := by
    intro X hP hw hK hc i pins s σ H E I hf st hg
    subst hP hw hK
    obtain ⟨hz, hTI, ⟨x0, y0, hTO⟩, h1, h2⟩ := st
    obtain ⟨xs, y, c, hqx, hx, hcx⟩ := hg
    obtain ⟨its, rv, p, _⟩ := I.list hqx
    obtain ⟨u, hu, ru⟩ := rv.get hx
    have hh : X.A.in1.handled = none := I.ok.hd hc
    have W := WalksT.zipD2 (prog := X.prog) (w := X.w) (A := X.A) S (Draws.list (prog := X.prog) (w := X.w) (A := X.A.in1) hh i1 a hai its.toArray) (Draws.text (prog := X.prog) (w := X.w) (A := X.A.in1) hh i2 x t)
    have hlt : i < min its.toArray.size x.cps.size := by
      have h1 := (List.getElem?_eq_some_iff.mp hu).1
      have h2 := (Array.getElem?_eq_some_iff.mp hcx).1
      rw [List.size_toArray]
      omega
    have lt5 : ∀ b ∈ [z, TI, TO, i1, i2], b < s.heap.objs.size := fun b hb => by
      have e' : b = z ∨ b = TI ∨ b = TO ∨ b = i1 ∨ b = i2 := by simpa using hb
      rcases e' with q | q | q | q | q
      · rw [q]; exact Heap.lt_size hz
      · rw [q]; exact Heap.lt_size hTI
      · rw [q]; exact Heap.lt_size hTO
      · rw [q]; obtain ⟨_, e1, _⟩ := h1; exact Heap.lt_size e1
      · rw [q]; obtain ⟨_, e2, _⟩ := h2; exact Heap.lt_size e2
    refine W.item i s _ _ hlt ⟨hz, hTI, ⟨x0, y0, hTO⟩, ⟨h1, p.isList⟩, h2⟩ fun T vals h' tk hv hT hTup hmid hk => ⟨_, rfl, ?_⟩
    refine W.go elts kk tpos i T _ _ _ hmid fun h'' hst hk2 => ?_
    obtain ⟨u1, u2, hu1, ⟨c', tc, hc', eu2⟩, hvals⟩ := hv
    have e1 : u1 = u := by
      have q1 : its.toArray[i]? = some u1 := hu1
      have q2 : its.toArray[i]? = some u := by simpa using hu
      rw [q1] at q2
      exact Option.some.inj q2
    have e2 : c' = c := by
      rw [hcx] at hc'
      exact (Option.some.inj hc').symm
    subst e1
    subst e2
    subst eu2
    subst hvals
    have hTw : T ∉ [z, TO, i1, i2] := W.apart i T h' hmid
    obtain ⟨oT, hoT, hcT, nT, hdT⟩ := hTup
    have hTup2 : ∃ o, h''.get? T = some o ∧ o.cls = .type "tuple" ∧ ∃ n, o.data = .seq #[u1, .str ⟨#[c']⟩ tc] n := ⟨oT, hk2 T _ hTw hoT, hcT, nT, hdT⟩
    have kp : ∀ b o, b ∉ [z, TI, TO, i1, i2] → s.heap.get? b = some o → h''.get? b = some o := fun b o hb q =>
      hk2 b o (fun m => hb (by rcases (by simpa using m : b = z ∨ b = TO ∨ b = i1 ∨ b = i2) with q | q | q | q <;> simp [q])) (hk b o (fun m => hb (by rcases (by simpa using m : b = z ∨ b = TO ∨ b = i1 ∨ b = i2) with q | q | q | q <;> simp [q])) q)
    have new : ObjOk X.prog X.w (upd H T (.tup [y, .str ⟨#[c']⟩])) h'' T (.tup [y, .str ⟨#[c']⟩]) :=
      ⟨by show 2 ≤ sizeLine; decide, [u1, .str ⟨#[c']⟩ tc], .cons ru (.cons ⟨_, rfl⟩ .nil), hTup2⟩
    have I1 : Inv X pins σ (upd H T (.tup [y, .str ⟨#[c']⟩])) { s with heap := h'', toks := tk } := I.turnedNew (ch := [z, TI, TO, i1, i2]) kp hf hT new
    obtain ⟨z2, TI2, TO2, ⟨l2, _⟩, t2⟩ := hst
    refine ⟨.ref T, _, I1, rfl, ⟨T, y, c', rfl, I.hok.fresh hT, rfl, fun ys hy => by rw [I.list_inj hy hqx]; exact hx, hcx⟩, ⟨z2, TI2, TO2, l2, t2⟩, fun b hb => ?_⟩
    rw [upd_ne (Nat.ne_of_lt (Nat.lt_of_lt_of_le (lt5 b hb) hT))]
    exact (hf b hb).1
  done := by
    intro X hP hw hK hc i pins s σ H E I hf st hg
    subst hP hw hK
    obtain ⟨hz, hTI, ⟨x0, y0, hTO⟩, h1, h2⟩ := st
    obtain ⟨xs, hqx, hx, hcx⟩ := hg
    obtain ⟨its, rv, p, _⟩ := I.list hqx
    have hl := rv.length
    have hh : X.A.in1.handled = none := I.ok.hd hc
    have W := WalksT.zipD2 (prog := X.prog) (w := X.w) (A := X.A) S (Draws.list (prog := X.prog) (w := X.w) (A := X.A.in1) hh i1 a hai its.toArray) (Draws.text (prog := X.prog) (w := X.w) (A := X.A.in1) hh i2 x t)
    have hn : i = min its.toArray.size x.cps.size := by
      rw [List.size_toArray]
      omega
    have hst : IsZip s.heap z TI TO .none ∧ IsTupOf2 s.heap TI (.ref i1) (.ref i2) ∧ (∃ a1 a2, IsTupOf2 s.heap TO a1 a2) ∧ (s.heap.IsListIter i1 a (min its.toArray.size x.cps.size) ∧ s.heap.IsList a its.toArray) ∧ s.heap.IsStrIter i2 (strIterType x) x t (min its.toArray.size x.cps.size) := by
      rw [← hn]
      exact ⟨hz, hTI, ⟨x0, y0, hTO⟩, ⟨h1, p.isList⟩, h2⟩
    exact W.done s _ _ hst fun h' tk hk => ⟨rfl, I.turnedL (ch := [z, TI, TO, i1, i2]) (fun b o hb q => hk b o (fun m => hb (by rcases (by simpa using m : b = z ∨ b = TO ∨ b = i1 ∨ b = i2) with q | q | q | q <;> simp [q])) q) hf⟩
  self := fun A i s Q E st h => wpAny_pyIter_zip st.1 h
def iZipS (K : PySem.W.Frag) (ta : TA) : TI := fun σ H R => ta σ H fun vs H1 => ∃ a xs x, vs = [.ref a, .str x] ∧ SqL K H1 a xs ∧ R (ItzS K a x) H1
theorem pi_zipS {e e2 : Expr} {ta : TA} {p pos tpos : Pos} {elts : List Expr} {kk : Nat} (hg : Gl X "zip") (hm : X.mg "zip" = none) (ha : PA X [e, e2] ta)
    (hs : starEach [e, e2] X.env = (false, eval e X.env) :: starEach [e2] X.env := by rfl) (hpl : (backTo pos (starEach [e2] X.env)).any (·.1) = false := by rfl) :
    PI X (.Tuple elts kk tpos) (.Call (.Name "zip" p) [e, e2] [] pos) (iZipS X.K ta) := by
  refine ⟨fun pins s σ H R I h => ?_⟩
  refine Call_ (ld_blt I hg hm PyProof.Rows.boot_zip (PyProof.Rows.callWith_type1 (thn (ha.run pos pins s σ H _ I h) fun us s1 ⟨vs, H1, I1, r1, q1⟩ => ?_) hs hpl))
  obtain ⟨a, xs, x, ex, hqx, q⟩ := q1
  subst ex
  obtain ⟨u, u2, eu, ru, ru2⟩ := vals2 r1
  subst eu
  obtain rfl : u = Value.ref a := ru
  obtain ⟨t, rfl⟩ := ru2
  obtain ⟨its, rv, p1, _⟩ := I1.list hqx
  have la : a < s1.heap.objs.size := p1.lt
  have hlow : ∀ b ∈ [a], b < s1.heap.objs.size := fun b hb => by
    rw [List.mem_singleton.mp hb]
    exact la
  have hn2 : ∀ b ∈ ([] : List Addr), b < s1.heap.objs.size := fun b hb => by simp at hb
  refine zip_begins2 (begins_list a its.toArray) (begins_text x t) p1.isList trivial fun h' hz hTI hTO h1 h2 hsz hk => wpAny_pyIter_zip hz ?_
  have I2 : Inv X pins σ H1 { s1 with heap := h' } := I1.kept (t' := s1.toks) hk
  refine ⟨s1.heap.objs.size + 4, [s1.heap.objs.size + 4, s1.heap.objs.size + 2, s1.heap.objs.size + 3, s1.heap.objs.size, s1.heap.objs.size + 1], _, _, H1, rfl, I2, turn_zipS (t := t) (zip_sep2 hlow hn2) (Nat.ne_of_lt la), ⟨hz, hTI, ⟨_, _, hTO⟩, ⟨_, h1, rfl, rfl⟩, ⟨_, h2, rfl, rfl⟩⟩, fun c hcm => ?_, q⟩
  have e' : c = s1.heap.objs.size + 4 ∨ c = s1.heap.objs.size + 2 ∨ c = s1.heap.objs.size + 3 ∨ c = s1.heap.objs.size ∨ c = s1.heap.objs.size + 1 := by simpa using hcm
  have hle : s1.heap.objs.size ≤ c := by
    rcases e' with z | z | z | z | z
    · rw [z]; exact Nat.le_add_right _ _
    · rw [z]; exact Nat.le_add_right _ _
    · rw [z]; exact Nat.le_add_right _ _
    · rw [z]; exact Nat.le_refl _
    · rw [z]; exact Nat.le_add_right _ _
  exact I1.fpOk hle (I1.hok.fresh hle)
/-- the loop over such a zip -/
theorem for_zipS {K : PySem.W.Frag} {a : Addr} {xs : List V} {x : Str} {g : TG} {tb : TS} {D : Ends} {σ : L2.St} {H : Hp} (hl : xs.length = x.cps.size) (Pv : Nat → L2.St → Hp → Prop) (h0 : Pv 0 σ H) (hq : ∀ i σ H, Pv i σ H → SqL K H a xs)
    (hs : ∀ (i : Nat) (y : V) (c : Nat) (T : Addr) (σ : L2.St) (H : Hp), xs[i]? = some y → x.cps[i]? = some c → Pv i σ H → H T = none → g (.ref T) σ (upd H T (.tup [y, .str ⟨#[c]⟩])) fun σ2 H2 => tb { D with nx := Pv (i + 1), ct := Pv (i + 1), bk := D.nx } σ2 H2) (hd : ∀ σ H, Pv xs.length σ H → D.nx σ H) :
    ∃ W : Nat → Nat → L2.St → Hp → Prop, (∃ m, W 0 m σ H) ∧ ∀ i m σ H, W i m σ H →
      ((ItzS K a x).stop i H ∧ D.nx σ H) ∨ ((ItzS K a x).go i H ∧ ∃ N : L2.St → Hp → Prop, (∀ σ' H', N σ' H' → ∃ m', m' < m ∧ W (i + 1) m' σ' H') ∧ ∀ v H', (ItzS K a x).yld i H v H' → g v σ H' fun σ2 H2 => tb { D with nx := N, ct := N, bk := D.nx } σ2 H2) := by
  refine ⟨fun i m σ H => m = xs.length - i ∧ i ≤ xs.length ∧ Pv i σ H, ⟨xs.length, rfl, Nat.zero_le _, h0⟩, ?_⟩
  rintro i m σ H ⟨rfl, hi, p⟩
  have qx := hq i σ H p
  by_cases hlt : i < xs.length
  · have hx : xs[i]? = some xs[i] := List.getElem?_eq_getElem hlt
    have hlt2 : i < x.cps.size := by omega
    have hy : x.cps[i]? = some x.cps[i] := Array.getElem?_eq_getElem hlt2
    refine .inr ⟨⟨xs, _, _, qx, hx, hy⟩, Pv (i + 1), fun σ' H' p' => ⟨xs.length - (i + 1), by omega, rfl, hlt, p'⟩, fun v H' y => ?_⟩
    obtain ⟨T, x', c', rfl, hT, rfl, f1, f2⟩ := y
    exact hs i x' c' T σ H (f1 xs qx) f2 p hT
  · have e : i = xs.length := by omega
    subst e
    exact .inl ⟨⟨xs, qx, rfl, hl.symm⟩, hd σ H p⟩
/-- the loop over an enumerate from k on -/
theorem for_enumK {K : PySem.W.Frag} {k : Int} {a : Addr} {xs : List V} {g : TG} {tb : TS} {D : Ends} {σ : L2.St} {H : Hp} (Pv : Nat → L2.St → Hp → Prop) (h0 : Pv 0 σ H) (hq : ∀ i σ H, Pv i σ H → SqL K H a xs)
    (hs : ∀ (i : Nat) (y : V) (T : Addr) (σ : L2.St) (H : Hp), xs[i]? = some y → Pv i σ H → H T = none → g (.ref T) σ (upd H T (.tup [.int (k + (i : Nat)), y])) fun σ2 H2 => tb { D with nx := Pv (i + 1), ct := Pv (i + 1), bk := D.nx } σ2 H2) (hd : ∀ σ H, Pv xs.length σ H → D.nx σ H) :
    ∃ W : Nat → Nat → L2.St → Hp → Prop, (∃ m, W 0 m σ H) ∧ ∀ i m σ H, W i m σ H →
      ((IteC K k a).stop i H ∧ D.nx σ H) ∨ ((IteC K k a).go i H ∧ ∃ N : L2.St → Hp → Prop, (∀ σ' H', N σ' H' → ∃ m', m' < m ∧ W (i + 1) m' σ' H') ∧ ∀ v H', (IteC K k a).yld i H v H' → g v σ H' fun σ2 H2 => tb { D with nx := N, ct := N, bk := D.nx } σ2 H2) := by
  refine ⟨fun i m σ H => m = xs.length - i ∧ i ≤ xs.length ∧ Pv i σ H, ⟨xs.length, rfl, Nat.zero_le _, h0⟩, ?_⟩
  rintro i m σ H ⟨rfl, hi, p⟩
  have qx := hq i σ H p
  by_cases hlt : i < xs.length
  · have hx : xs[i]? = some xs[i] := List.getElem?_eq_getElem hlt
    refine .inr ⟨⟨xs, _, qx, hx⟩, Pv (i + 1), fun σ' H' p' => ⟨xs.length - (i + 1), by omega, rfl, hlt, p'⟩, fun v H' y => ?_⟩
    obtain ⟨T, x', rfl, hT, rfl, f1⟩ := y
    exact hs i x' T σ H (f1 xs qx) p hT
  · have e : i = xs.length := by omega
    subst e
    exact .inl ⟨⟨xs, qx, rfl⟩, hd σ H p⟩
end
end SP

/-! ### the end of a Spec row whose program makes lambdas: tables of code objects are tracked -/
namespace SP
open PySem PySem.Spec PyProof.Rows L2 LamX
open PySem.W (WData Codec OpenSpec Well WellAll ReadsW ReadsAllW Ground)
theorem spec_callT {P : Program} {w : World} {K : PySem.W.Frag} {mg mb : Str → Option Value} {k : Nat} {fa a : Addr} {cs : List (Addr × Addr)} {fd : FuncData} {x : Str} {sp : Sp} {s₁ : Shared} {vs : List Value} {ns : List Int} {R : PySem.W.WRecords} {cl : Str → Option Addr} {d0 : WData}
    (KX : K.In s₁.heap) (hns : s₁.heap.Ns mainGlobals mg) (hb : s₁.heap.Ns builtinsNs mb) (hbb : ∀ x : Str, x ≠ "__name__" → mb x = bootBuiltins x) (hlim : s₁.heap.NoLimit) (hg : s₁.gens = #[])
    (hT : ∀ p ∈ cs, s₁.heap.get? p.2 = some { cls := .none, data := .fields #[] }) (nT : ∀ p ∈ cs, K.lookup p.2 = none) (C : ∀ p ∈ cs, PySem.W.CodeHd s₁.heap p.1 p.2)
    (hbm : ∃ (bm : Addr) (ob : Obj), mg "__builtins__" = some (.ref bm) ∧ bm ≠ builtinsNs ∧ s₁.heap.get? bm = some ob ∧ ob.cls = .type "module" ∧ ob.dict = some builtinsNs ∧ ob.data = .plain)
    (ha : s₁.heap.get? a = some { cls := .type "list", data := .seq vs.toArray }) (hi : IntsAre vs ns) (hl : ns.length ≤ sizeLine) (hr : Room k callerA)
    (F : ∀ base : Heap, K.In base → base.Ns mainGlobals mg → (∀ p ∈ cs, TabB base mg p.1 p.2) → FnOk P w K mg base CX0 k fa fd [x] sp) (hbind : ∀ (s : Shared) (us : List Value), us.length = 1 → BindsTo s fd ⟨us, []⟩ ([x].zip us))
    (hsp : ∀ H : Hp, (∀ p ∈ cs, H p.2 = some (.tbl #[])) → SqL K H a (ns.map V.int) → sp [.ref a] H (fun v H' => Dw K H' v d0) fun _ _ _ => False) :
    codeAny (model P w) callerA (.call (.ref fa) ⟨[.ref a], []⟩) (fun r s' => ∃ u as, r = .ok (.ret u) ∧ ReadsW R cl s'.heap u d0 as ∧ OldK s₁.heap s'.heap ∧ s'.os = s₁.os ∧ AllBare s'.gens) s₁ := by
  have rv := vals_ints hi
  have lenV := hi.length
  have isT : ∀ b : Addr, b ∈ cs.map (·.2) → s₁.heap.get? b = some { cls := .none, data := .fields #[] } := fun b hb => by
    obtain ⟨p, hp, e⟩ := List.mem_map.mp hb
    rw [← e]
    exact hT p hp
  have aT : a ∉ cs.map (·.2) := fun z => by
    have q := isT a z
    rw [ha] at q
    have z' : Data.seq vs.toArray _ = Data.fields #[] := congrArg Obj.data (Option.some.inj q)
    cases z'
  have memT : ∀ p ∈ cs, p.2 ∈ cs.map (·.2) := fun p hp => List.mem_map.mpr ⟨p, hp, rfl⟩
  have core : ∀ H : Hp, (∀ p ∈ cs, H p.2 = some (.tbl #[])) → (∀ b, H b = none ∨ b ∈ cs.map (·.2) ∨ ∃ o xs, H b = some (.frz o (.lst xs))) → SqL K H a (ns.map V.int) → HOk P w H s₁.heap → (∀ b, H b ≠ none → b = a ∨ b ∈ cs.map (·.2)) → (H a ≠ none → K.lookup a = none) →
      codeAny (model P w) callerA (.call (.ref fa) ⟨[.ref a], []⟩) (fun r s' => ∃ u as, r = .ok (.ret u) ∧ ReadsW R cl s'.heap u d0 as ∧ OldK s₁.heap s'.heap ∧ s'.os = s₁.os ∧ AllBare s'.gens) s₁ := by
    intro H hH hO hS hok hA hK
    have base_of : ∀ {b : Addr} {o : Obj}, s₁.heap.get? b = some o → H b = none → (hidT s₁.heap H).get? b = some o := fun e n => hidT_get e n
    have noD : ∀ {b : Addr} {o : Obj}, s₁.heap.get? b = some o → (∀ vs n, o.data ≠ .seq vs n) → o.data ≠ .fields #[] → H b = none := fun {b o} e h1 h2 => by
      cases q : H b with
      | none => rfl
      | some u =>
        rcases hA b (by rw [q]; simp) with e' | e'
        · rw [e', ha] at e
          cases e
          exact (h1 _ _ rfl).elim
        · rw [isT b e'] at e
          cases e
          exact (h2 rfl).elim
    have noA : ∀ {b : Addr} {o : Obj} {es : Array DictEntry} {ep : Nat}, s₁.heap.get? b = some o → o.data = .dict es ep → H b = none := fun {b o es ep} e d => by
      refine noD e (fun vs n z => ?_) fun z => ?_
      · rw [d] at z
        cases z
      · rw [d] at z
        cases z
    have nsK : ∀ {b : Addr} {m : Str → Option Value}, s₁.heap.Ns b m → (hidT s₁.heap H).Ns b m := fun {b m} ⟨o, es, ep, e, d, r⟩ => ⟨o, es, ep, base_of e (noA e d), d, r⟩
    have hKb : K.In (hidT s₁.heap H) := fun b o e => base_of (KX b o e) (by
      cases q : H b with
      | none => rfl
      | some u =>
        rcases hA b (by rw [q]; simp) with e' | e'
        · rw [e'] at e q
          rw [hK (by rw [q]; simp)] at e
          cases e
        · obtain ⟨p, hp, ep⟩ := List.mem_map.mp e'
          rw [← ep, nT p hp] at e
          cases e)
    have hM : L2.Mod K mg (hidT s₁.heap H) := ⟨hKb, nsK hns, ⟨mb, nsK hb, hbb⟩, let ⟨mc, h1, h2⟩ := hlim; ⟨mc, nsK h1, h2⟩⟩
    have TB : ∀ p ∈ cs, TabB (hidT s₁.heap H) mg p.1 p.2 := fun p hp => by
      have hTp := hT p hp
      refine ⟨?_, ?_, fun z => ?_⟩
      · obtain ⟨o, us, file, tf, flags, tg, inF, text, tt, e1, r1, r2, r3, r4, r5, r6, r7, r8, hne⟩ := C p hp
        refine ⟨o, us, file, tf, flags, tg, inF, text, tt, base_of e1 (noD e1 (fun vs n z => ?_) fun z => ?_), r1, r2, r3, r4, r5, r6, r7, r8, hne⟩
        · rw [r2] at z
          cases z
        · rw [r2] at z
          cases z
          simp at r3
      · obtain ⟨bm, ob, b1, b2, b3, b4, b5, b6⟩ := hbm
        have nG : bm ≠ mainGlobals := fun q => by
          obtain ⟨o, es, ep, e, hd, _⟩ := hns
          rw [q, e] at b3
          cases b3
          rw [hd] at b6
          cases b6
        have nP : bm ≠ p.2 := fun q => by
          rw [q, hTp] at b3
          cases b3
          cases b6
        refine ⟨bm, ob, b1, b2, nG, nP, base_of b3 (noD b3 (fun vs n z => ?_) fun z => ?_), b4, b5, b6⟩
        · rw [b6] at z
          cases z
        · rw [b6] at z
          cases z
      · obtain ⟨o, es, ep, e, hd, _⟩ := hns
        rw [z, hTp] at e
        cases e
        cases hd
    have e0 : Env0 P w K mg (hidT s₁.heap H) callerA [] s₁ H := ⟨rfl, hM, fun b o e => of_hidT e, Nat.le_of_eq (hidT_size _ _), trivial, fun b hb => absurd (show b ∈ ([] : List Addr) from hb) (by simp), hok, .of_eq hg⟩
    refine codeAny_mono ((F _ hKb (nsK hns) TB).run callerA [] s₁ H ⟨[.ref a], []⟩ [.ref a] [.ref a] _ _ hr e0 (hbind s₁ [.ref a] rfl) (.cons rfl .nil) (hsp H hH hS)) fun r s' h => ?_
    cases r with
    | error e => exact (show False from h).elim
    | ok fl =>
      cases fl with
      | next => exact False.elim h
      | brk => exact False.elim h
      | cont => exact False.elim h
      | ret u =>
        obtain ⟨v, H', os, bare, un, hok', r', q⟩ := h
        have key : ∀ b o, b ∉ cs.map (·.2) → s₁.heap.get? b = some o → s'.heap.get? b = some o := fun b o nb e => by
          cases q : H b with
          | none => exact un.keep b o e q (by intro z; exact absurd (show b ∈ ([] : List Addr) from z) (by simp)) (by simp)
          | some u =>
            rcases hO b with z | z | ⟨ob, xs, z⟩
            · rw [q] at z; cases z
            · exact absurd z nb
            · have z2 := un.frzs b ob _ z
              obtain ⟨e1, _⟩ := hok b _ z
              obtain ⟨e2, _⟩ := hok' b _ z2
              rw [e] at e1; cases e1
              exact e2
        have grown : ∀ p ∈ cs, ∃ more : Array Value, s'.heap.get? p.2 = some { cls := .none, data := .fields more } := fun p hp => by
          obtain ⟨more, z⟩ := un.tbls p.2 #[] (hH p hp)
          exact ⟨_, hok' p.2 _ z⟩
        have KX' : K.In s'.heap := fun b o e => key b o (fun hb => by
          obtain ⟨p, hp, ep⟩ := List.mem_map.mp hb
          rw [← ep, nT p hp] at e
          cases e) (KX b o e)
        obtain ⟨as, hrd⟩ := Dw.reads (R := R) (cl := cl) hok' KX' d0 v u q r'
        refine ⟨u, as, rfl, hrd, ⟨fun b o e => ?_, fun b o e => ?_⟩, os, bare⟩
        · by_cases hb : b ∈ cs.map (·.2)
          · obtain ⟨p, hp, ep⟩ := List.mem_map.mp hb
            obtain ⟨more, hm⟩ := grown p hp
            rw [← ep] at e ⊢
            rw [hT p hp] at e
            cases e
            exact .inr (.inl ⟨((C p hp).tab (hT p hp)).isCodeTable, rfl, #[], more, rfl, by rw [Array.empty_append]; exact hm⟩)
          · exact .inl (key b o hb e)
        · by_cases hb : b ∈ cs.map (·.2)
          · obtain ⟨p, hp, ep⟩ := List.mem_map.mp hb
            obtain ⟨more, hm⟩ := grown p hp
            rw [← ep]
            exact ⟨_, hm⟩
          · exact ⟨o, key b o hb e⟩
  cases hk : K.lookup a with
  | some o =>
    have e := KX a o hk
    rw [ha] at e
    cases e
    refine core (fun b => if b ∈ cs.map (·.2) then some (.tbl #[]) else none) (fun p hp => if_pos (memT p hp)) (fun b => ?_) (.inr ⟨_, vs.toArray, _, hk, rfl, rfl, rfl, by rw [List.size_toArray, lenV]; exact hl, by simpa using rv⟩) (fun b u z => ?_) (fun b z => ?_) fun z => absurd (show (if a ∈ cs.map (·.2) then some (HO.tbl #[]) else none) = none from if_neg aT) z
    · by_cases hb : b ∈ cs.map (·.2)
      · exact .inr (.inl hb)
      · exact .inl (if_neg hb)
    · by_cases hb : b ∈ cs.map (·.2)
      · have z' := (if_pos hb).symm.trans z
        cases z'
        exact isT b hb
      · have z' := (if_neg hb).symm.trans z
        cases z'
    · by_cases hb : b ∈ cs.map (·.2)
      · exact .inr hb
      · exact absurd (if_neg hb) z
  | none =>
    refine core (fun b => if b = a then some (.frz { cls := .type "list", data := .seq vs.toArray } (.lst (ns.map V.int))) else if b ∈ cs.map (·.2) then some (.tbl #[]) else none) (fun p hp => (if_neg (show ¬ p.2 = a from fun z => aT (by rw [← z]; exact memT p hp))).trans (if_pos (memT p hp))) (fun b => ?_)
      (.inl (.inr ⟨{ cls := .type "list", data := .seq vs.toArray }, if_pos rfl⟩)) (fun b u z => ?_) (fun b z => ?_) fun _ => hk
    · by_cases hb : b = a
      · exact .inr (.inr ⟨_, _, if_pos hb⟩)
      · by_cases hb2 : b ∈ cs.map (·.2)
        · exact .inr (.inl hb2)
        · exact .inl ((if_neg hb).trans (if_neg hb2))
    · by_cases hb : b = a
      · have z' := (if_pos hb).symm.trans z
        cases z'
        rw [hb]
        exact ⟨ha, by rw [List.length_map]; exact hl, vs, _, rv, ha⟩
      · have z1 := (if_neg hb).symm.trans z
        by_cases hb2 : b ∈ cs.map (·.2)
        · have z' := (if_pos hb2).symm.trans z1
          cases z'
          exact isT b hb2
        · have z' := (if_neg hb2).symm.trans z1
          cases z'
    · by_cases hb : b = a
      · exact .inl hb
      · by_cases hb2 : b ∈ cs.map (·.2)
        · exact .inr hb2
        · exact absurd ((if_neg hb).trans (if_neg hb2)) z
theorem walk_specT {r : OpenSpec} {k : Nat} {q : Program} {loose : List Str} {XP : (Str → Option Value) → Heap → Prop} {YP : World → Heap → Prop} {d : DefRec} {K : Params → PySem.W.Frag} {x : Str} {sp : PySem.W.Frag → List (Addr × Addr) → Sp} {Pre : List Int → Prop} {fn : List Int → List Int}
    (hwell : r.wellSaid = true) (hdf : d.params.defaults = []) (hr : Room k callerA)
    (hY : ∀ (w : World) (h : Heap), YP w h → (K w.params).In h)
    (hds : ∀ a : Codec.denoteAll r.args, Codec.withinAll r.args a = true → Codec.app r.args r.asked a = true → ∃ ns : List Int, Codec.encAll r.args a = [.list (ns.map .int)] ∧ ns.length ≤ sizeLine ∧ Pre ns ∧ r.ret.enc (Codec.app r.args r.f a) = .list ((fn ns).map .int))
    (F : ∀ (w : World) (s₀ : Shared) (mg mb : Str → Option Value) (fa : Addr) (h : Heap), Ground q loose [] XP w s₀ mg mb h → YP w h → (K w.params).In h → mg d.name = some (.ref fa) →
      ∃ (fd : FuncData) (cs : List (Addr × Addr)), (∀ p ∈ cs, h.get? p.2 = some { cls := .none, data := .fields #[] }) ∧ (∀ p ∈ cs, (K w.params).lookup p.2 = none) ∧ (∀ p ∈ cs, PySem.W.CodeHd h p.1 p.2) ∧
        (∀ (s : Shared) (us : List Value), us.length = 1 → BindsTo s fd ⟨us, []⟩ ([x].zip us)) ∧
        ∀ base : Heap, (K w.params).In base → base.Ns mainGlobals mg → (∀ p ∈ cs, TabB base mg p.1 p.2) → FnOk r.prog w (K w.params) mg base CX0 k fa fd [x] (sp (K w.params) cs))
    (hsp : ∀ (K : PySem.W.Frag) (cs : List (Addr × Addr)) (H : Hp) (a : Addr) (ns : List Int), Pre ns → (∀ p ∈ cs, H p.2 = some (.tbl #[])) → SqL K H a (ns.map V.int) →
      sp K cs [.ref a] H (fun v H' => Dw K H' v (.list ((fn ns).map .int))) fun _ _ _ => False) :
    PySem.W.WalkOS q loose XP YP r d [] (fun f vs => PySem.call f vs) := by
  intro w s₀ s₁ mg mb G Y fa o pm cd doc dV kV ho hd hcd hD hmg hg args vals as hpre hlay hrd hwl hlo
  obtain ⟨a, e1, e2⟩ := PySem.W.os_pre_some hpre
  obtain ⟨e3, hwi⟩ := Codec.encAll_of_decAll r.args args a e1
  subst e3
  have KX := hY w _ Y
  obtain ⟨ns, ens, hlen, hP, eret⟩ := hds a hwi e2
  obtain ⟨fd, cs, hT, nT, C, hb, hF⟩ := F w s₀ mg mb fa _ G Y KX hmg
  rw [ens] at hwl
  obtain ⟨v, vs0, ev, hw1, hw2⟩ := well_cons hwl
  cases hw2
  obtain ⟨al, vs, rfl, hobj, hall⟩ := well_list hw1
  subst ev
  have hints : IntsAre vs ns := Att.ints_of_wellAll ns vs hall
  refine PySem.W.enter_call (codeAny_mono (spec_callT (R := []) (cl := classAt s₀.heap) (d0 := r.ret.enc (Codec.app r.args r.f a)) KX G.T.g G.T.b G.T.builtins G.T.nolimit hg hT nT C G.T.bmain hobj hints hlen hr hF hb
    (fun H hH hS => by
      rw [eret]
      exact hsp (K w.params) cs H al ns hP hH hS)) fun r' s' hq => ?_)
  obtain ⟨u, as', rfl, h1, h2, h3, h4⟩ := hq
  exact ⟨.inl ⟨u, _, as', rfl, fun _ => rfl, h1, (OpenSpec.post_iff hwell hwi _ _).mpr rfl, fun z => Bool.noConfusion (show false = true from z)⟩, h2, h3, h4⟩
end SP

namespace SP
open PySem PySem.Spec PyProof.Rows L2 LamX
/-! ### the text -/
def top (i : Nat) : Stmt := PySem.Challenge.pw_starplaces_s01_answers.main.body.getD i (.Pass ⟨0, 0, 0, 0⟩)
/-- the def st stands under the name x -/
def DefAt (K : PySem.W.Frag) (mg : Str → Option Value) (x : Str) (st : Stmt) : Prop := ∃ f fd, mg x = some (.ref f) ∧ Fun K x x st f fd
/-- a written tuple -/
def KTup (K : PySem.W.Frag) (a : Addr) (xs : List V) : Prop := ∃ o its n, K.lookup a = some o ∧ o.cls = .type "tuple" ∧ o.data = .seq its n ∧ its.size ≤ sizeLine ∧ Vals xs its.toList
theorem KTup.sq {K : PySem.W.Frag} {a : Addr} {xs : List V} (h : KTup K a xs) (H : Hp) : SqT K H a xs := .inr h
/-- a def that makes a lambda: its code object and table -/
def LamAt (K : PySem.W.Frag) (mg : Str → Option Value) (base : Heap) (Ts : List (Addr × Str)) (x : Str) (st : Stmt) : Prop :=
  ∃ (f c Pt : Addr) (oc : Value) (od : Option Addr) (kV doc pm : Value) (an : Option Addr) (ct : Value) (osl : Array (Option Value)), mg x = some (.ref f) ∧
    K.lookup f = some ⟨oc, od, .func (PySem.W.fnOf x x (defArgs st) (defBody st) (defScope st) .none kV doc pm an (.ref c) ct), osl⟩ ∧ PySem.W.codeIn K (.ref c) x = true ∧ PySem.W.keepIn K (.ref f) = true ∧
    TabB base mg c Pt ∧ (Pt, (x ++ ".<locals>.") ++ "<lambda>") ∈ Ts ∧ ∀ p ∈ Ts, p.1 = Pt → p.2 = (x ++ ".<locals>.") ++ "<lambda>"
/-- a class of the text: its instances are made, read and stored in the plain way; its methods ms -/
structure ClsAt (K : PySem.W.Frag) (mg : Str → Option Value) (C : Addr) (x : Str) (as : List Str) : Prop where
  cl : Cls K C
  gl : mg x = some (.ref C)
  na : ∀ a ∈ as, NoAttr K C a
def InitAt (K : PySem.W.Frag) (C : Addr) (qual : Str) (st : Stmt) : Prop := ∃ f fd, Mk K C f ∧ Fun K "__init__" qual st f fd
def MethAt (K : PySem.W.Frag) (C : Addr) (m qual : Str) (st : Stmt) : Prop := ∃ f fd, Meth K C m f ∧ Fun K m qual st f fd
/-- what the top has written: constants, built-ins that are still themselves, the defs as they stand -/
structure Txt (K : PySem.W.Frag) (mg : Str → Option Value) : Prop where
  ONE : ∃ t, mg "ONE" = some (.int 1000000000000000000 t)
  SCALED_PI : ∃ t, mg "SCALED_PI" = some (.int 3141592653589793238 t)
  TURN : ∃ t, mg "TURN" = some (.int 1296000000 t)
  HALF_TURN : ∃ t, mg "HALF_TURN" = some (.int 648000000 t)
  QUARTER : ∃ t, mg "QUARTER" = some (.int 324000000 t)
  TERM_COUNT : ∃ t, mg "TERM_COUNT" = some (.int 12 t)
  DAY : ∃ t, mg "DAY" = some (.int 86400 t)
  NOON : ∃ t, mg "NOON" = some (.int 43200 t)
  START_YEAR : ∃ t, mg "START_YEAR" = some (.int 2000 t)
  FIRST_YEAR : ∃ t, mg "FIRST_YEAR" = some (.int 1700 t)
  LAST_YEAR : ∃ t, mg "LAST_YEAR" = some (.int 2300 t)
  DAYS_IN_400_YEARS : ∃ t, mg "DAYS_IN_400_YEARS" = some (.int 146097 t)
  FEBRUARY : ∃ t, mg "FEBRUARY" = some (.int 2 t)
  TEXT_NOT_ALLOWED : ∃ t, mg "TEXT_NOT_ALLOWED" = some (.int 1 t)
  OUT_OF_RANGE : ∃ t, mg "OUT_OF_RANGE" = some (.int 2 t)
  NO_SUCH_STAR : ∃ t, mg "NO_SUCH_STAR" = some (.int 3 t)
  TEXT_ERROR : ∃ t, mg "TEXT_ERROR" = some (.int 10 t)
  YEAR : ∃ t, mg "YEAR" = some (.int 31557600 t)
  LAST_MOMENT : ∃ t, mg "LAST_MOMENT" = some (.int 10000000000 t)
  SIDEREAL_START : ∃ t, mg "SIDEREAL_START" = some (.int 1009658226 t)
  SIDEREAL_GAIN : ∃ t, mg "SIDEREAL_GAIN" = some (.int 1299548330518644 t)
  SIDEREAL_SPAN : ∃ t, mg "SIDEREAL_SPAN" = some (.int 86400000000 t)
  CENTURY : ∃ t, mg "CENTURY" = some (.int 3155760000 t)
  PRECESSION_P : ∃ t, mg "PRECESSION_P" = some (.int 2306218 t)
  PRECESSION_N : ∃ t, mg "PRECESSION_N" = some (.int 2004311 t)
  OBLIQUITY : ∃ t, mg "OBLIQUITY" = some (.int 84381448 t)
  LINE_FEED : ∃ t, mg "LINE_FEED" = some (.int 10 t)
  SPACE : ∃ t, mg "SPACE" = some (.int 32 t)
  MINUS : ∃ t, mg "MINUS" = some (.int 45 t)
  POINT : ∃ t, mg "POINT" = some (.int 46 t)
  ZERO : ∃ t, mg "ZERO" = some (.int 48 t)
  NINE : ∃ t, mg "NINE" = some (.int 57 t)
  SMALL_A : ∃ t, mg "SMALL_A" = some (.int 97 t)
  SMALL_Z : ∃ t, mg "SMALL_Z" = some (.int 122 t)
  LONGEST_NAME : ∃ t, mg "LONGEST_NAME" = some (.int 12 t)
  SECOND_OF_TIME : ∃ t, mg "SECOND_OF_TIME" = some (.int 15 t)
  RIGHT_ANGLE : ∃ t, mg "RIGHT_ANGLE" = some (.int 324000000 t)
  LONGEST_TEXT : ∃ t, mg "LONGEST_TEXT" = some (.int 6000 t)
  LAST_BYTE : ∃ t, mg "LAST_BYTE" = some (.int 126 t)
  MOST_STARS : ∃ t, mg "MOST_STARS" = some (.int 60 t)
  NUMBER_SIGN : ∃ t, mg "NUMBER_SIGN" = some (.int 35 t)
  LOAD : ∃ t, mg "LOAD" = some (.int 0 t)
  STAR : ∃ t, mg "STAR" = some (.int 1 t)
  FIND : ∃ t, mg "FIND" = some (.int 2 t)
  EXPORT : ∃ t, mg "EXPORT" = some (.int 3 t)
  PLACE : ∃ t, mg "PLACE" = some (.int 4 t)
  HORIZON : ∃ t, mg "HORIZON" = some (.int 5 t)
  ECLIPTIC : ∃ t, mg "ECLIPTIC" = some (.int 6 t)
  SEPARATION : ∃ t, mg "SEPARATION" = some (.int 7 t)
  CONE : ∃ t, mg "CONE" = some (.int 8 t)
  MATCH : ∃ t, mg "MATCH" = some (.int 9 t)
  DATE : ∃ t, mg "DATE" = some (.int 10 t)
  MOMENT : ∃ t, mg "MOMENT" = some (.int 11 t)
  SIDEREAL : ∃ t, mg "SIDEREAL" = some (.int 12 t)
  SINES : ∃ t, mg "SINES" = some (.int 13 t)
  ANGLE_FORM : ∃ t, mg "ANGLE_FORM" = some (.str "dd:dd:dd.ddd" t)
  MONTH_LENGTHS : ∃ a, mg "MONTH_LENGTHS" = some (.ref a) ∧ KTup K a [.int 31, .int 28, .int 31, .int 30, .int 31, .int 30, .int 31, .int 31, .int 30, .int 31, .int 30, .int 31]
  MAGNITUDE_FORMS : ∃ a, mg "MAGNITUDE_FORMS" = some (.ref a) ∧ KTup K a [.str "d", .str "d.d", .str "d.dd", .str "d.ddd", .str "dd", .str "dd.d", .str "dd.dd", .str "dd.ddd"]
  MOTION_FORMS : ∃ a, mg "MOTION_FORMS" = some (.ref a) ∧ KTup K a [.str "d", .str "dd", .str "ddd", .str "dddd", .str "ddddd"]
  NUMBER_COUNTS : ∃ a, mg "NUMBER_COUNTS" = some (.ref a) ∧ KTup K a [.int 0, .int 1, .int 0, .int 0, .int 2, .int 4, .int 2, .int 3, .int 5, .int 2, .int 1, .int 4, .int 1, .int 1, .int 2]
  abs_ : mg "abs" = none
  all_ : mg "all" = none
  any_ : mg "any" = none
  divmod_ : mg "divmod" = none
  enumerate_ : mg "enumerate" = none
  len_ : mg "len" = none
  min_ : mg "min" = none
  ord_ : mg "ord" = none
  range_ : mg "range" = none
  sorted_ : mg "sorted" = none
  str_ : mg "str" = none
  sum_ : mg "sum" = none
  zip_ : mg "zip" = none
  d_alternating_sum : DefAt K mg "alternating_sum" (top 7)
  d_sine_series : DefAt K mg "sine_series" (top 8)
  d_cosine_series : DefAt K mg "cosine_series" (top 9)
  d_quarter_sine : DefAt K mg "quarter_sine" (top 10)
  d_quarter_cosine : DefAt K mg "quarter_cosine" (top 11)
  d_sine : DefAt K mg "sine" (top 12)
  d_cosine : DefAt K mg "cosine" (top 13)
  d_halve : DefAt K mg "halve" (top 14)
  d_direction : DefAt K mg "direction" (top 17)
  d_is_leap_year : DefAt K mg "is_leap_year" (top 27)
  d_month_length : DefAt K mg "month_length" (top 28)
  d_days_before_year : DefAt K mg "days_before_year" (top 29)
  d_days_before_month : DefAt K mg "days_before_month" (top 30)
  d_year_of : DefAt K mg "year_of" (top 31)
  d_date_of : DefAt K mg "date_of" (top 32)
  d_is_date : DefAt K mg "is_date" (top 33)
  d_moment_of : DefAt K mg "moment_of" (top 34)
  d_is_moment : DefAt K mg "is_moment" (top 45)
  d_sidereal_time : DefAt K mg "sidereal_time" (top 46)
  d_date_answer : DefAt K mg "date_answer" (top 48)
  d_moment_answer : DefAt K mg "moment_answer" (top 49)
  d_sidereal_answer : DefAt K mg "sidereal_answer" (top 50)
  d_sines_answer : DefAt K mg "sines_answer" (top 51)
  d_angles_answer : DefAt K mg "angles_answer" (top 52)
  d_vector_at : DefAt K mg "vector_at" (top 54)
  d_longitude_and_latitude : DefAt K mg "longitude_and_latitude" (top 55)
  d_rotated_x : DefAt K mg "rotated_x" (top 56)
  d_rotated_y : DefAt K mg "rotated_y" (top 57)
  d_rotated_z : DefAt K mg "rotated_z" (top 58)
  d_square_of_distance : DefAt K mg "square_of_distance" (top 60)
  d_separation_at : DefAt K mg "separation_at" (top 61)
  d_separation_of : DefAt K mg "separation_of" (top 62)
  d_is_within : DefAt K mg "is_within" (top 63)
  d_moved_vector : DefAt K mg "moved_vector" (top 70)
  d_place_vector : DefAt K mg "place_vector" (top 71)
  d_ecliptic_vector : DefAt K mg "ecliptic_vector" (top 72)
  d_horizontal_vector : DefAt K mg "horizontal_vector" (top 73)
  d_found_stars : DefAt K mg "found_stars" (top 75)
  d_squares_from : DefAt K mg "squares_from" (top 76)
  d_nearest_number : DefAt K mg "nearest_number" (top 77)
  d_matches_of : DefAt K mg "matches_of" (top 78)
  d_is_digit : DefAt K mg "is_digit" (top 94)
  d_is_small_letter : DefAt K mg "is_small_letter" (top 95)
  d_fits : DefAt K mg "fits" (top 96)
  d_number_of : DefAt K mg "number_of" (top 97)
  d_without_minus : DefAt K mg "without_minus" (top 98)
  d_with_sign_of : DefAt K mg "with_sign_of" (top 99)
  d_thousandths : DefAt K mg "thousandths" (top 100)
  d_is_sixtieths : DefAt K mg "is_sixtieths" (top 101)
  d_is_name : DefAt K mg "is_name" (top 102)
  d_is_right_ascension : DefAt K mg "is_right_ascension" (top 103)
  d_right_ascension_of : DefAt K mg "right_ascension_of" (top 104)
  d_is_declination : DefAt K mg "is_declination" (top 105)
  d_declination_of : DefAt K mg "declination_of" (top 106)
  d_is_magnitude : DefAt K mg "is_magnitude" (top 107)
  d_magnitude_of : DefAt K mg "magnitude_of" (top 108)
  d_is_motion : DefAt K mg "is_motion" (top 109)
  d_motion_of : DefAt K mg "motion_of" (top 110)
  d_is_allowed : DefAt K mg "is_allowed" (top 116)
  d_parted : DefAt K mg "parted" (top 117)
  d_words_of : DefAt K mg "words_of" (top 118)
  d_is_ignored : DefAt K mg "is_ignored" (top 119)
  d_index_of_name : DefAt K mg "index_of_name" (top 120)
  d_error_kind : DefAt K mg "error_kind" (top 121)
  d_star_of : DefAt K mg "star_of" (top 122)
  d_read_catalogue : DefAt K mg "read_catalogue" (top 123)
  d_sign_before : DefAt K mg "sign_before" (top 124)
  d_digits_of : DefAt K mg "digits_of" (top 125)
  d_sixtieths : DefAt K mg "sixtieths" (top 126)
  d_declination_text : DefAt K mg "declination_text" (top 127)
  d_magnitude_text : DefAt K mg "magnitude_text" (top 128)
  d_star_line : DefAt K mg "star_line" (top 129)
  d_written_catalogue : DefAt K mg "written_catalogue" (top 130)
  d_is_observation : DefAt K mg "is_observation" (top 132)
  d_is_search : DefAt K mg "is_search" (top 133)
  d_has_row : DefAt K mg "has_row" (top 151)
  d_split_calls : DefAt K mg "split_calls" (top 152)
  d_conversion_answer : DefAt K mg "conversion_answer" (top 153)
  d_answer_to : DefAt K mg "answer_to" (top 154)
  d_answers : DefAt K mg "answers" (top 155)
/-- all that the top has written; the tables of the code objects; the classes Star (Ct) and Session (Cs) -/
structure Ctx (P : Program) (w : World) (K : PySem.W.Frag) (mg : Str → Option Value) (base : Heap) (Ts : List (Addr × Str)) (Ct Cs : Addr) : Prop where
  t : Txt K mg
  l_arcsin : LamAt K mg base Ts "arcsin" (top 15)
  l_quarter_direction : LamAt K mg base Ts "quarter_direction" (top 16)
  l_square_root : LamAt K mg base Ts "square_root" (top 59)
  star : ClsAt K mg Ct "Star" ["name", "right_ascension", "declination", "magnitude", "right_ascension_motion", "declination_motion"]
  star_init : InitAt K Ct "Star.__init__" (inClass (top 69) 0)
  ses : ClsAt K mg Cs "Session" ["stars"]
  ses_init : InitAt K Cs "Session.__init__" (inClass (top 134) 0)
  m_load : MethAt K Cs "load" "Session.load" (inClass (top 134) 1)
  m_describe : MethAt K Cs "describe" "Session.describe" (inClass (top 134) 2)
  m_search_name : MethAt K Cs "search_name" "Session.search_name" (inClass (top 134) 3)
  m_export : MethAt K Cs "export" "Session.export" (inClass (top 134) 4)
  m_place : MethAt K Cs "place" "Session.place" (inClass (top 134) 5)
  m_horizon : MethAt K Cs "horizon" "Session.horizon" (inClass (top 134) 6)
  m_ecliptic : MethAt K Cs "ecliptic" "Session.ecliptic" (inClass (top 134) 7)
  m_separation : MethAt K Cs "separation" "Session.separation" (inClass (top 134) 8)
  m_cone : MethAt K Cs "cone" "Session.cone" (inClass (top 134) 9)
  m_match_with : MethAt K Cs "match_with" "Session.match_with" (inClass (top 134) 10)
/-! ### a def with its promise -/
structure Has (P : Program) (w : World) (K : PySem.W.Frag) (mg : Str → Option Value) (base : Heap) (x : Str) (k : Nat) (ps : List Str) (sp : Sp) : Prop where
  ex : ∃ (f : Addr) (fd : FuncData), mg x = some (.ref f) ∧ FnOk P w K mg base CX0 k f fd ps sp ∧ PySem.W.keepIn K (.ref f) = true ∧ L2.Binds K fd ps []
section
variable {P : Program} {w : World} {K : PySem.W.Frag} {mg : Str → Option Value} {base : Heap} {X : Cx}
theorem pe_h {x : Str} {k : Nat} {ps : List Str} {sp : Sp} {p pos : Pos} {e : Expr} {es : List Expr} {t : TA} (F : Has X.prog X.w X.K X.mg X.base x k ps sp) (hr : Room k X.A) (hg : Gl X x) (ha : PA X (e :: es) t) (hdb : (x == ("__debug__" : Str)) = false := by decide)
    (he : starEach (e :: es) X.env = (false, eval e X.env) :: starEach es X.env := by rfl) (hpl : (backTo pos (starEach es X.env)).any (·.1) = false := by rfl) : PE X (.Call (.Name x p) (e :: es) [] pos) (tCall sp [] E0 t) := by
  obtain ⟨f, fd, hm, F1, kp, b⟩ := F.ex
  exact pe_call F1 hr hg hm kp b .nil pass0 ha hdb he hpl
theorem has_of {x : Str} {st : Stmt} {N ps : List Str} {k : Nat} {sp : Sp} (D : DefAt K mg x st) (S : FnScope N ps (defScope st)) (len : ∀ vs H Q E, sp vs H Q E → vs.length = ps.length)
    (hb : ∀ (kV doc pm : Value) (an : Option Addr) (cdv ct : Value) (us : List Value), us.length = ps.length → bindArgs (PySem.W.fnOf x x (defArgs st) (defBody st) (defScope st) .none kV doc pm an cdv ct) ⟨us, []⟩ = pure (ps.zip us))
    (hbody : ∀ (f : Addr) (cdv : Value) (A : Around) (outer : List Env) (s : Shared) (H : Hp) (vs : List V) (Q : VK) (E : XK), Room k (A.deeper (envOfC x (defScope st) s.heap.objs.size f cdv)) → sp vs H Q E →
      ∃ t, PSs (cxOf CX0 P w K mg base N x (defScope st) f cdv A outer s H E).nox (defBody st) t ∧ t { nx := fun _ H' => Q .non H', rt := Q } (start N vs) H) : Has P w K mg base x (k + 1) ps sp := by
  obtain ⟨f, fd, hm, F⟩ := D
  exact ⟨f, fd, hm, F.ok S len (fun cdv A outer s H vs Q E hr h => hbody f cdv A outer s H vs Q E hr h), F.kp, F.binds hb⟩
theorem pe_gi {x : Str} {n : Int} {pos : Pos} (h : ∃ t, X.mg x = some (.int n t)) (hg : Gl X x := by rfl) (hd : (x == ("__debug__" : Str)) = false := by decide) : PE X (.Name x pos) (tC (.int n)) := by
  obtain ⟨t, h⟩ := h
  exact pe_glob hg h ⟨t, rfl⟩ hd
theorem pe_gs {x : Str} {n : Str} {pos : Pos} (h : ∃ t, X.mg x = some (.str n t)) (hg : Gl X x := by rfl) (hd : (x == ("__debug__" : Str)) = false := by decide) : PE X (.Name x pos) (tC (.str n)) := by
  obtain ⟨t, h⟩ := h
  exact pe_glob hg h ⟨t, rfl⟩ hd
theorem pe_gl {x : Str} {a : Addr} {pos : Pos} (h : X.mg x = some (.ref a)) (hg : Gl X x := by rfl) (hd : (x == ("__debug__" : Str)) = false := by decide) : PE X (.Name x pos) (tC (.ref a)) :=
  pe_glob hg h rfl hd
end
/-! ### readings, step by step -/
section
variable {K : PySem.W.Frag} {t u : TS} {D : Ends} {σ : L2.St} {H : Hp} {te ta tb tc : TE} {Q : VK} {QB : Bool → Hp → Prop} {i : Nat} {v : V}
theorem rd_seq (h : t { D with nx := u D } σ H) : tSeq t u D σ H := h
theorem rd_asg (h : te σ H fun x H1 => D.nx (σ.set i (some x)) H1) : tAsg te (gName i) D σ H := h
theorem rd_asgT {n : Nat} {g : TGs} (h : te σ H fun x H1 => ∃ a xs, x = .ref a ∧ SqT K H1 a xs ∧ xs.length = n ∧ g xs σ H1 D.nx) : tAsg te (gTup K n g) D σ H := h
theorem rd_ret (h : te σ H D.rt) : tRet te D σ H := h
theorem rd_drop (h : te σ H fun _ H1 => D.nx σ H1) : tDrop te D σ H := h
theorem rd_if {c : TT} (h : c σ H fun b H1 => if b = true then t D σ H1 else u D σ H1) : tIfS c t u D σ H := h
theorem rd_next (h : D.nx σ H) : tNext D σ H := h
theorem rd_cont (h : D.ct σ H) : tCont D σ H := h
theorem rd_aug {ti : TIp} {x : V} (hx : σ[i]? = some (some x)) (h : te σ H fun y H1 => ti x y H1 fun z H2 => D.nx (σ.set i (some z)) H2) : tAug i te ti D σ H := ⟨x, hx, h⟩
theorem rd_ip {f : Int → Int → Int} {a b : Int} (h : Q (.int (f a b)) H) : ipI f (.int a) (.int b) H Q := ⟨a, b, rfl, rfl, h⟩
theorem rd_var (h : σ[i]? = some (some v)) (q : Q v H) : tVar i σ H Q := ⟨v, h, q⟩
theorem rd_c (q : Q v H) : tC v σ H Q := q
theorem rd_op {r : R2} (h : ta σ H fun x H1 => tb σ H1 fun y H2 => r x y H2 Q) : tOp r ta tb σ H Q := h
theorem rd_un {r : V → Hp → VK → Prop} (h : ta σ H fun x H1 => r x H1 Q) : tUn r ta σ H Q := h
theorem rd_I0 {g : Int → Int → V} {a b : Int} (q : Q (g a b) H) : rI0 g (.int a) (.int b) H Q := ⟨a, b, rfl, rfl, q⟩
theorem rd_I {C : Int → Int → Prop} {g : Int → Int → V} {a b : Int} (c : C a b) (q : Q (g a b) H) : rI C g (.int a) (.int b) H Q := ⟨a, b, rfl, rfl, c, q⟩
theorem rd_U {g : Int → V} {a : Int} (q : Q (g a) H) : rU g (.int a) H Q := ⟨a, rfl, q⟩
theorem dec_vi (a b : Int) : decide (V.int a = V.int b) = decide (a = b) := by
  by_cases h : a = b
  · subst h
    simp
  · rw [decide_eq_false h, decide_eq_false (fun e => h (V.int.inj e))]
theorem dec_vs (a b : Str) : decide (V.str a = V.str b) = decide (a = b) := by
  by_cases h : a = b
  · subst h
    simp
  · rw [decide_eq_false h, decide_eq_false (fun e => h (V.str.inj e))]
theorem rd_eq {a b : Int} (q : Q (.bl (decide (a = b))) H) : rEq (.int a) (.int b) H Q := ⟨rfl, by rw [dec_vi]; exact q⟩
theorem rd_ne {a b : Int} (q : Q (.bl (!decide (a = b))) H) : rNe (.int a) (.int b) H Q := ⟨rfl, by rw [dec_vi]; exact q⟩
theorem rd_eqs {a b : Str} (q : Q (.bl (decide (a = b))) H) : rEq (.str a) (.str b) H Q := ⟨rfl, by rw [dec_vs]; exact q⟩
theorem rd_test (h : te σ H fun x H1 => ∃ k, x = .bl k ∧ QB k H1) : tTest te σ H QB := h
theorem rd_tB (h : te σ H fun x H1 => ∃ k, x = .bl k ∧ QB k H1) : tB te σ H QB := h
theorem rd_k {k : Bool} (q : QB k H) : ∃ k', V.bl k = .bl k' ∧ QB k' H := ⟨k, rfl, q⟩
theorem rd_and {c d : TT} (h : c σ H fun b H1 => if b = true then d σ H1 QB else QB false H1) : tAnd c d σ H QB := h
theorem rd_or {c d : TT} (h : c σ H fun b H1 => if b = true then QB true H1 else d σ H1 QB) : tOr c d σ H QB := h
theorem rd_not {c : TT} (h : c σ H fun b H1 => QB (!b) H1) : tNot c σ H QB := h
theorem rd_andV (h : ta σ H fun x H1 => ∃ k, x = .bl k ∧ if k = true then tb σ H1 Q else Q (.bl false) H1) : tAndV ta tb σ H Q := h
theorem rd_orV (h : ta σ H fun x H1 => ∃ k, x = .bl k ∧ if k = true then Q (.bl true) H1 else tb σ H1 Q) : tOrV ta tb σ H Q := h
theorem rd_notV (h : ta σ H fun x H1 => ∃ k, x = .bl k ∧ Q (.bl (!k)) H1) : tNotV ta σ H Q := h
theorem rd_kV {k : Bool} {p : Bool → Prop} (q : p k) : ∃ k', V.bl k = .bl k' ∧ p k' := ⟨k, rfl, q⟩
theorem rd_call {sp : Sp} {t : TA} (h : t σ H fun vs H1 => sp (vs ++ []) H1 Q E0) : tCall sp [] E0 t σ H Q := h
theorem rd_nil {Q : List V → Hp → Prop} (h : Q [] H) : tNil σ H Q := h
theorem rd_cons {t : TA} {Q : List V → Hp → Prop} (h : ta σ H fun x H1 => t σ H1 fun xs H2 => Q (x :: xs) H2) : tCons ta t σ H Q := h
theorem rd_tup {t : TA} (h : t σ H fun xs H1 => xs.length ≤ sizeLine ∧ ∀ p, H1 p = none → Q (.ref p) (upd H1 p (.tup xs))) : tTup t σ H Q := h
theorem rd_lst {t : TA} (h : t σ H fun xs H1 => xs.length ≤ sizeLine ∧ ∀ p, H1 p = none → Q (.ref p) (upd H1 p (.lst xs))) : tLst t σ H Q := h
theorem rd_cb {t : TA} {r : List V → Hp → VK → Prop} (h : t σ H fun vs H1 => r vs H1 Q) : tCB r t σ H Q := h
theorem rd_chain {r r' : R2} (h : ta σ H fun x H1 => tb σ H1 fun y H2 => r x y H2 fun z H3 => ∃ k, z = .bl k ∧ if k = true then tc σ H3 fun u H4 => r' y u H4 Q else Q (.bl false) H3) : tChain r r' ta tb tc σ H Q := h
theorem rd_sl {r : V → Option Int → Option Int → Hp → VK → Prop} {tl th : TO} (h : te σ H fun x H1 => tl σ H1 fun l H2 => th σ H2 fun u H3 => r x l u H3 Q) : tSl r te tl th σ H Q := h
theorem rd_part {Q : Option Int → Hp → Prop} (h : te σ H fun x H1 => ∃ i, x = .int i ∧ Q (some i) H1) : tPart te σ H Q := h
theorem rd_nopart {Q : Option Int → Hp → Prop} (h : Q none H) : tNoPart σ H Q := h
theorem rd_int {a : Int} {p : Int → Prop} (q : p a) : ∃ k, V.int a = .int k ∧ p k := ⟨a, rfl, q⟩
theorem rd_l1 {a : Int} {p : Int → Prop} (q : p a) : ∃ i, [V.int a] = [V.int i] ∧ p i := ⟨a, rfl, q⟩
theorem rd_l2 {a b : Int} {p : Int → Int → Prop} (q : p a b) : ∃ i j, [V.int a, V.int b] = [V.int i, V.int j] ∧ p i j := ⟨a, b, rfl, q⟩
theorem rd_lc {wi : TI} {g : TG} {tt : TT} {vs : List Nat} (h : wi σ H fun J H1 => ∀ D, H1 D = none → ∃ W : Nat → Nat → Hp → Prop, (∃ m, W 0 m (upd H1 D (.lst []))) ∧ ∀ i m H, W i m H →
    (J.stop i H ∧ Q (.ref D) H) ∨ (J.go i H ∧ ∃ Nx : Hp → Prop, (∀ H', Nx H' → ∃ m', m' < m ∧ W (i + 1) m' H') ∧ ∀ x H', J.yld i H x H' → g x (wipe σ vs) H' fun σ2 H2 => wipe σ2 vs = wipe σ vs ∧ tt σ2 H2 fun b H3 =>
      if b = true then te σ2 H3 fun y H4 => ∃ acc, H4 D = some (.lst acc) ∧ acc.length < sizeLine ∧ Nx (upd H4 D (.lst (acc ++ [y]))) else Nx H3)) : tLc wi g tt te vs σ H Q := h
theorem rd_rng1 {t : TA} {R : It → Hp → Prop} (h : t σ H fun vs H1 => ∃ j : Int, vs = [.int j] ∧ -(2 ^ 62) ≤ j ∧ j < 2 ^ 62 ∧ R (Itr 0 j.toNat) H1) : iRng1 t σ H R := h
theorem rd_rng2 {t : TA} {R : It → Hp → Prop} (h : t σ H fun vs H1 => ∃ i j : Int, vs = [.int i, .int j] ∧ (-(2 ^ 62) ≤ i ∧ i < 2 ^ 62 ∧ -(2 ^ 62) ≤ j ∧ j < 2 ^ 62) ∧ R (Itr i (j - i).toNat) H1) : iRng2 t σ H R := h
theorem rd_yes {QB : Bool → Hp → Prop} (h : QB true H) : tYes σ H QB := h
theorem rd_ilist {R : It → Hp → Prop} (h : te σ H fun x H1 => ∃ a, x = .ref a ∧ (∃ xs, SqL K H1 a xs) ∧ R (Itl K a) H1) : iList K te σ H R := h
theorem rd_itup {R : It → Hp → Prop} (h : te σ H fun x H1 => ∃ a, x = .ref a ∧ (∃ xs, SqT K H1 a xs) ∧ R (Itt K a) H1) : iTup K te σ H R := h
theorem rd_for {wi : TI} {g : TG} {tb : TS} (h : wi σ H fun J H1 => ∃ W : Nat → Nat → L2.St → Hp → Prop, (∃ m, W 0 m σ H1) ∧ ∀ i m σ H, W i m σ H →
      (J.stop i H ∧ D.nx σ H) ∨ (J.go i H ∧ ∃ N : L2.St → Hp → Prop, (∀ σ' H', N σ' H' → ∃ m', m' < m ∧ W (i + 1) m' σ' H') ∧ ∀ x H', J.yld i H x H' → g x σ H' fun σ2 H2 => tb { D with nx := N, ct := N, bk := D.nx } σ2 H2)) : tFor wi g tb D σ H := h
theorem rd_g {x : V} {Q : L2.St → Hp → Prop} (h : Q (σ.set i (some x)) H) : gName i x σ H Q := h
theorem rd_iteT {A B : Prop} (h : A) : if true = true then A else B := iteT h
theorem rd_ref {a : Addr} {p : Addr → Prop} (q : p a) : ∃ k, V.ref a = .ref k ∧ p k := ⟨a, rfl, q⟩
theorem rd_unp2 {a : Addr} {x y : V} {i j : Nat} {Q : L2.St → Hp → Prop} (h : SqT K H a [x, y]) (q : Q ((σ.set i (some x)).set j (some y)) H) : ∃ a' xs, V.ref a = .ref a' ∧ SqT K H a' xs ∧ xs.length = 2 ∧ gCons (gName i) (gCons (gName j) gNil) xs σ H Q :=
  ⟨a, _, rfl, h, rfl, x, _, rfl, y, _, rfl, rfl, q⟩
theorem rd_unp3 {a : Addr} {x y z : V} {i j k : Nat} {Q : L2.St → Hp → Prop} (h : SqT K H a [x, y, z]) (q : Q (((σ.set i (some x)).set j (some y)).set k (some z)) H) : ∃ a' xs, V.ref a = .ref a' ∧ SqT K H a' xs ∧ xs.length = 3 ∧ gCons (gName i) (gCons (gName j) (gCons (gName k) gNil)) xs σ H Q :=
  ⟨a, _, rfl, h, rfl, x, _, rfl, y, _, rfl, z, _, rfl, rfl, q⟩
/-- an if whose test is a decided statement -/
theorem rd_d {c : Prop} [Decidable c] {A B : Prop} (h1 : c → A) (h2 : ¬ c → B) : if decide c = true then A else B := by
  by_cases h : c
  · rw [decide_eq_true h, if_pos rfl]
    exact h1 h
  · rw [decide_eq_false h, if_neg Bool.false_ne_true]
    exact h2 h
theorem rd_nd {c : Prop} [Decidable c] {A B : Prop} (h1 : ¬ c → A) (h2 : c → B) : if (!decide c) = true then A else B := by
  by_cases h : c
  · rw [decide_eq_true h]
    exact iteF (h2 h)
  · rw [decide_eq_false h]
    exact iteT (h1 h)
theorem rd_b {b : Bool} {A B : Prop} (h1 : b = true → A) (h2 : b = false → B) : if b = true then A else B := by
  cases b
  · exact iteF (h2 rfl)
  · exact iteT (h1 rfl)
theorem rd_nb {b : Bool} {A B : Prop} (h1 : b = false → A) (h2 : b = true → B) : if (!b) = true then A else B := by
  cases b
  · exact iteT (h1 rfl)
  · exact iteF (h2 rfl)
theorem rd_and2 {c d : TT} {σ : L2.St} {H : Hp} {QB : Bool → Hp → Prop} {b1 b2 : Bool} (h1 : ∀ Q : Bool → Hp → Prop, Q b1 H → c σ H Q) (h2 : ∀ Q : Bool → Hp → Prop, Q b2 H → d σ H Q) (q : QB (b1 && b2) H) : tAnd c d σ H QB := by
  refine h1 _ ?_
  cases b1
  · exact iteF q
  · exact iteT (h2 _ q)
theorem rd_or2 {c d : TT} {σ : L2.St} {H : Hp} {QB : Bool → Hp → Prop} {b1 b2 : Bool} (h1 : ∀ Q : Bool → Hp → Prop, Q b1 H → c σ H Q) (h2 : ∀ Q : Bool → Hp → Prop, Q b2 H → d σ H Q) (q : QB (b1 || b2) H) : tOr c d σ H QB := by
  refine h1 _ ?_
  cases b1
  · exact iteF (h2 _ q)
  · exact iteT q
theorem rd_andV2 {ta tb : TE} {σ : L2.St} {H : Hp} {Q : VK} {b1 b2 : Bool} (h1 : ∀ Q : VK, Q (.bl b1) H → ta σ H Q) (h2 : ∀ Q : VK, Q (.bl b2) H → tb σ H Q) (q : Q (.bl (b1 && b2)) H) : tAndV ta tb σ H Q := by
  refine h1 _ ⟨b1, rfl, ?_⟩
  cases b1
  · exact iteF q
  · exact iteT (h2 _ q)
theorem rd_orV2 {ta tb : TE} {σ : L2.St} {H : Hp} {Q : VK} {b1 b2 : Bool} (h1 : ∀ Q : VK, Q (.bl b1) H → ta σ H Q) (h2 : ∀ Q : VK, Q (.bl b2) H → tb σ H Q) (q : Q (.bl (b1 || b2)) H) : tOrV ta tb σ H Q := by
  refine h1 _ ⟨b1, rfl, ?_⟩
  cases b1
  · exact iteF (h2 _ q)
  · exact iteT q
theorem rd_chain2 {p p' : Int → Int → Bool} {ta tb tc : TE} {σ : L2.St} {H : Hp} {Q : VK} {a b c : Int} (h1 : ∀ Q : VK, Q (.int a) H → ta σ H Q) (h2 : ∀ Q : VK, Q (.int b) H → tb σ H Q) (h3 : ∀ Q : VK, Q (.int c) H → tc σ H Q) (q : Q (.bl (p a b && p' b c)) H) :
    tChain (rI0 fun i j => .bl (p i j)) (rI0 fun i j => .bl (p' i j)) ta tb tc σ H Q := by
  refine h1 _ (h2 _ ⟨a, b, rfl, rfl, p a b, rfl, ?_⟩)
  cases e : p a b
  · rw [e] at q
    exact iteF q
  · rw [e] at q
    exact iteT (h3 _ ⟨b, c, rfl, rfl, q⟩)
theorem rd_dd {c d : Prop} [Decidable c] [Decidable d] {A B : Prop} (h1 : c ∧ d → A) (h2 : ¬ (c ∧ d) → B) : if (decide c && decide d) = true then A else B := by
  by_cases h : c ∧ d
  · rw [decide_eq_true h.1, decide_eq_true h.2]
    exact iteT (h1 h)
  · have e : (decide c && decide d) = false := by
      cases q : (decide c && decide d)
      · rfl
      · rw [Bool.and_eq_true] at q
        exact absurd ⟨of_decide_eq_true q.1, of_decide_eq_true q.2⟩ h
    rw [e]
    exact iteF (h2 h)
/-! ### promises of plain values -/
def spF1 (C : Int → Prop) (f : Int → V) : Sp := fun vs H Q _ => ∃ a, vs = [.int a] ∧ C a ∧ Q (f a) H
def spF2 (C : Int → Int → Prop) (f : Int → Int → V) : Sp := fun vs H Q _ => ∃ a b, vs = [.int a, .int b] ∧ C a b ∧ Q (f a b) H
def spF3 (C : Int → Int → Int → Prop) (f : Int → Int → Int → V) : Sp := fun vs H Q _ => ∃ a b c, vs = [.int a, .int b, .int c] ∧ C a b c ∧ Q (f a b c) H
def spF4 (C : Int → Int → Int → Int → Prop) (f : Int → Int → Int → Int → V) : Sp := fun vs H Q _ => ∃ a b c d, vs = [.int a, .int b, .int c, .int d] ∧ C a b c d ∧ Q (f a b c d) H
theorem rd_f1 {C : Int → Prop} {f : Int → V} {E : XK} {a : Int} (h : C a) (q : Q (f a) H) : spF1 C f ([.int a] ++ []) H Q E := ⟨a, rfl, h, q⟩
theorem rd_f2 {C : Int → Int → Prop} {f : Int → Int → V} {E : XK} {a b : Int} (h : C a b) (q : Q (f a b) H) : spF2 C f ([.int a, .int b] ++ []) H Q E := ⟨a, b, rfl, h, q⟩
theorem rd_f3 {C : Int → Int → Int → Prop} {f : Int → Int → Int → V} {E : XK} {a b c : Int} (h : C a b c) (q : Q (f a b c) H) : spF3 C f ([.int a, .int b, .int c] ++ []) H Q E := ⟨a, b, c, rfl, h, q⟩
theorem rd_f4 {C : Int → Int → Int → Int → Prop} {f : Int → Int → Int → Int → V} {E : XK} {a b c d : Int} (h : C a b c d) (q : Q (f a b c d) H) : spF4 C f ([.int a, .int b, .int c, .int d] ++ []) H Q E := ⟨a, b, c, d, rfl, h, q⟩
end
/-! ### bounds for * and // -/
theorem cmul_of {i j : Int} (h1 : -(10 ^ 60) ≤ i) (h2 : i ≤ 10 ^ 60) (h3 : -(10 ^ 60) ≤ j) (h4 : j ≤ 10 ^ 60) : CMulW i j := by
  have e : (10 : Int) ^ 60 = 1000000000000000000000000000000000000000000000000000000000000 := by decide
  have e2 : (2 : Nat) ^ 200 = 1606938044258990275541962092341162602522202993782792835301376 := by decide
  refine wide_mul (a := 200) (b := 200) ?_ ?_ (by decide) (by decide) (by decide)
  · rw [e2]
    omega
  · rw [e2]
    omega
theorem cdiv_of {i j : Int} (h1 : 0 < j) (h2 : j ≤ 10 ^ 60) : CDivW i j := by
  have e2 : (2 : Nat) ^ 200 = 1606938044258990275541962092341162602522202993782792835301376 := by decide
  have e : (10 : Int) ^ 60 = 1000000000000000000000000000000000000000000000000000000000000 := by decide
  refine wide_div (b := 200) h1 ?_ (by decide) (by decide)
  rw [e2]
  omega
/-- the heap has grown: tables of code objects more, all else as it was -/
def Up (Ts : List (Addr × Str)) (H H' : Hp) : Prop := ExtN H H' ∧ Tabs Ts H'
theorem Up.refl {Ts : List (Addr × Str)} {H : Hp} (t : Tabs Ts H) : Up Ts H H := ⟨ExtN.refl H, t⟩
theorem Up.trans {Ts : List (Addr × Str)} {H H1 H2 : Hp} (a : Up Ts H H1) (b : Up Ts H1 H2) : Up Ts H H2 := ⟨a.1.trans b.1, b.2⟩
theorem Up.of {Ts : List (Addr × Str)} {H H1 : Hp} (t : Tabs Ts H) (e : ∀ b o, H b = some o → H1 b = some o) : Up Ts H H1 := ⟨ExtN.of e, t.ext e⟩
theorem Up.new {Ts : List (Addr × Str)} {H : Hp} {p : Addr} {o : HO} (t : Tabs Ts H) (h : H p = none) : Up Ts H (upd H p o) := Up.of t fun b u e => by rw [upd_ne (ne_of_none e h)]; exact e
theorem Up.new2 {Ts : List (Addr × Str)} {H H1 : Hp} {p : Addr} {o : HO} (u : Up Ts H H1) (h : H1 p = none) : Up Ts H (upd H1 p o) := u.trans (Up.new u.2 h)
theorem Up.lst {Ts : List (Addr × Str)} {H H1 : Hp} {a : Addr} {xs : List V} (u : Up Ts H H1) (h : H a = some (.lst xs)) : H1 a = some (.lst xs) := u.1 a _ h fun _ z => by cases z
theorem Up.tup {Ts : List (Addr × Str)} {H H1 : Hp} {a : Addr} {xs : List V} (u : Up Ts H H1) (h : H a = some (.tup xs)) : H1 a = some (.tup xs) := u.1 a _ h fun _ z => by cases z
theorem Up.ins {Ts : List (Addr × Str)} {H H1 : Hp} {a C dx : Addr} {fs : List (Str × V)} (u : Up Ts H H1) (h : H a = some (.ins C dx fs)) : H1 a = some (.ins C dx fs) := u.1 a _ h fun _ z => by cases z
theorem Up.seq {Ts : List (Addr × Str)} {K : PySem.W.Frag} {H H1 : Hp} {a : Addr} {xs : List V} (u : Up Ts H H1) (h : SqL K H a xs) : SqL K H1 a xs := by
  rcases h with (h | ⟨o, h⟩) | h
  · exact .inl (.inl (u.lst h))
  · exact .inl (.inr ⟨o, u.1 a _ h fun _ z => by cases z⟩)
  · exact .inr h
/-- what was free is free behind (a new address is new for the elder heap) -/
theorem Up.back {Ts : List (Addr × Str)} {H H1 : Hp} {p : Addr} (u : Up Ts H H1) (n : H1 p = none) (t : Tabs Ts H) (hp : ∀ ps, H p ≠ some (.tbl ps)) : H p = none := by
  cases e : H p with
  | none => rfl
  | some o =>
    rw [u.1 p o e fun ps z => hp ps (by rw [e, z])] at n
    cases n
/-- the address is that of nothing that was tracked (but a table) -/
def Nw (H : Hp) (p : Addr) : Prop := ∀ o, H p = some o → ∃ ps, o = .tbl ps
theorem Nw.of {H : Hp} {p : Addr} (h : H p = none) : Nw H p := fun o e => by
  rw [h] at e
  cases e
theorem Nw.back {Ts : List (Addr × Str)} {H H1 : Hp} {p : Addr} (u : Up Ts H H1) (n : Nw H1 p) : Nw H p := fun o e => by
  cases o with
  | tbl ps => exact ⟨ps, rfl⟩
  | _ =>
    have q := u.1 p _ e (fun ps z => by cases z)
    obtain ⟨ps, z⟩ := n _ q
    cases z
theorem Nw.ne {H : Hp} {p l : Addr} {xs : List V} (n : Nw H p) (h : H l = some (.lst xs)) : p ≠ l := fun e => by
  rw [← e] at h
  obtain ⟨ps, z⟩ := n _ h
  cases z
theorem Nw.neI {H : Hp} {p l C dx : Addr} {fs : List (Str × V)} (n : Nw H p) (h : H l = some (.ins C dx fs)) : p ≠ l := fun e => by
  rw [← e] at h
  obtain ⟨ps, z⟩ := n _ h
  cases z
def vi (l : List Int) : List V := l.map V.int
/-- a new list of ints -/
def RetI (Ts : List (Addr × Str)) (H : Hp) (Q : VK) (l : List Int) : Prop := ∀ H' p, Up Ts H H' → Nw H p → H' p = some (.lst (vi l)) → Q (.ref p) H'
theorem RetI.lst {Ts : List (Addr × Str)} {H H1 : Hp} {Q : VK} {l : List Int} {xs : List V} (r : RetI Ts H Q l) (u : Up Ts H H1) (e : xs = vi l) : ∀ p, H1 p = none → Q (.ref p) (upd H1 p (.lst xs)) := fun p hp =>
  r _ p (u.new2 hp) (Nw.back u (Nw.of hp)) (by rw [upd_same, e])
def spG1 (Ts : List (Addr × Str)) (C : Int → Prop) (f : Int → V) : Sp := fun vs H Q _ => ∃ a, vs = [.int a] ∧ C a ∧ Tabs Ts H ∧ ∀ H', Up Ts H H' → Q (f a) H'
def spG2 (Ts : List (Addr × Str)) (C : Int → Int → Prop) (f : Int → Int → V) : Sp := fun vs H Q _ => ∃ a b, vs = [.int a, .int b] ∧ C a b ∧ Tabs Ts H ∧ ∀ H', Up Ts H H' → Q (f a b) H'
theorem rd_g1 {Ts : List (Addr × Str)} {C : Int → Prop} {f : Int → V} {E : XK} {a : Int} {H : Hp} {Q : VK} (h : C a) (t : Tabs Ts H) (q : ∀ H', Up Ts H H' → Q (f a) H') : spG1 Ts C f ([.int a] ++ []) H Q E := ⟨a, rfl, h, t, q⟩
theorem rd_g2 {Ts : List (Addr × Str)} {C : Int → Int → Prop} {f : Int → Int → V} {E : XK} {a b : Int} {H : Hp} {Q : VK} (h : C a b) (t : Tabs Ts H) (q : ∀ H', Up Ts H H' → Q (f a b) H') : spG2 Ts C f ([.int a, .int b] ++ []) H Q E := ⟨a, b, rfl, h, t, q⟩
section
variable {P : Program} {w : World} {K : PySem.W.Frag} {mg : Str → Option Value} {base : Heap}
theorem hasL_of {Ts : List (Addr × Str)} {x : Str} {st : Stmt} {N ps : List Str} {k : Nat} {sp : Sp} (D : LamAt K mg base Ts x st) (S : FnScope N ps (defScope st)) (len : ∀ vs H Q E, sp vs H Q E → vs.length = ps.length)
    (hb : ∀ (kV doc pm : Value) (an : Option Addr) (cdv ct : Value) (us : List Value), us.length = ps.length → bindArgs (PySem.W.fnOf x x (defArgs st) (defBody st) (defScope st) .none kV doc pm an cdv ct) ⟨us, []⟩ = pure (ps.zip us))
    (hbody : ∀ (f co Pt : Addr) (A : Around) (outer : List Env) (s : Shared) (H : Hp) (vs : List V) (Q : VK) (E : XK), TabB base mg co Pt → (Pt, (x ++ ".<locals>.") ++ "<lambda>") ∈ Ts → (∀ p ∈ Ts, p.1 = Pt → p.2 = (x ++ ".<locals>.") ++ "<lambda>") → Room k (A.deeper (envOfC x (defScope st) s.heap.objs.size f (.ref co))) → sp vs H Q E →
      ∃ t, PSs (cxOf CX0 P w K mg base N x (defScope st) f (.ref co) A outer s H E).nox (defBody st) t ∧ t { nx := fun _ H' => Q .non H', rt := Q } (start N vs) H) : Has P w K mg base x (k + 1) ps sp := by
  obtain ⟨f, co, Pt, oc, od, kV, doc, pm, an, ct, osl, hm, lk, hcd, kp, TB, hmT, hu⟩ := D
  refine ⟨f, _, hm, fn_of lk hcd S len (fun A outer s H vs Q E hr h => ?_), kp, .all (hb kV doc pm an (.ref co) ct)⟩
  obtain ⟨t, h1, q⟩ := hbody f co Pt A outer s H vs Q E TB hmT hu hr h
  exact ⟨t, h1.nox, q⟩
end
theorem and_t {c d : Prop} [Decidable c] [Decidable d] (h : (decide c && decide d) = true) : c ∧ d := by
  rw [Bool.and_eq_true] at h
  exact ⟨of_decide_eq_true h.1, of_decide_eq_true h.2⟩
theorem and_f {c d : Prop} [Decidable c] [Decidable d] (h : (decide c && decide d) = false) : ¬ (c ∧ d) := fun q => by
  rw [decide_eq_true q.1, decide_eq_true q.2] at h
  cases h
theorem nomark2 {op : CmpOp} {b : Expr} (h : behindInMarks op b = false) : behindInMarks op b = false := h
section
variable {K : PySem.W.Frag} {σ : L2.St} {H : Hp} {D : Ends} {te ta tb : TE} {t : TA} {Q : VK}
theorem rd_tfld {f : Str} (h : ta σ H fun x H1 => ∃ a C dx fs v, x = V.ref a ∧ H1 a = some (HO.ins C dx fs) ∧ Cls K C ∧ NoAttr K C f ∧ List.lookup f fs = some v ∧ Q v H1) : tFld K ta f σ H Q := h
theorem rd_sfld {f : Str} (h : tb σ H fun y H1 => ta σ H1 fun x H2 => ∃ a C dx fs, x = V.ref a ∧ H2 a = some (HO.ins C dx fs) ∧ Cls K C ∧ NoAttr K C f ∧ fs.length < 1000 ∧ D.nx σ (upd H2 a (HO.ins C dx (putF f y fs)))) : sFld K ta tb f D σ H := h
theorem rd_bm {T : String} {r : V → List V → Hp → VK → Prop} (h : ta σ H fun x H1 => tyV K T x H1 ∧ t σ H1 fun xs H2 => r x xs H2 Q) : tBM K T r ta t σ H Q := h
theorem rd_fmt (h : te σ H fun x H1 => (∃ y, x = V.str y ∧ y.length ≤ sizeLine ∧ Q (V.str y) H1) ∨ ∃ i, x = V.int i ∧ i.natAbs.log2 < 1920 ∧ Q (V.str (Str.ofString (toString i))) H1) : tFmt te σ H Q := h
theorem rd_m1 {r : V → List V → Hp → VK → Prop} (h : ta σ H fun x H1 => (∃ a, x = V.str a) ∧ te σ H1 fun y H2 => r x [y] H2 Q) : tM1 r ta te σ H Q := h
theorem rd_orT (h : ta σ H fun x H1 => ∃ k, TruV K x H1 k ∧ if k = true then Q x H1 else tb σ H1 Q) : tOrT K ta tb σ H Q := h
theorem rd_istr {R : It → Hp → Prop} (h : te σ H fun v H1 => ∃ x, v = V.str x ∧ R (Its x) H1) : iStr te σ H R := h
theorem rd_ienum {R : It → Hp → Prop} (h : t σ H fun vs H1 => ∃ a xs, vs = [V.ref a] ∧ SqL K H1 a xs ∧ R (Ite K a) H1) : iEnum K t σ H R := h
theorem rd_js0 {acc : Str} {Q : Str → Hp → Prop} (h : Q acc H) : tJs [] acc σ H Q := h
theorem rd_js1 {acc : Str} {t : TE} {ts : List TE} {Q : Str → Hp → Prop} (h : t σ H fun x H1 => ∃ y : Str, x = .str y ∧ (acc ++ y).length ≤ sizeLine ∧ tJs ts (acc ++ y) σ H1 Q) : tJs (t :: ts) acc σ H Q := h
theorem rd_make {C : Addr} {sp : Sp} {E : XK} (h : t σ H fun vs H1 => ∀ x dx : Addr, H1 x = none → H1 dx = none → dx ≠ x → sp (V.ref x :: (vs ++ [])) (upd (upd H1 dx (HO.own x)) x (HO.ins C dx [])) (fun v H2 => v = V.non ∧ Q (V.ref x) H2) E) : tMake C sp [] E t σ H Q := h
theorem rd_meth {C : Addr} {m : Str} {sp : Sp} {E : XK} (h : ta σ H fun x H1 => ∃ a dx fs, x = V.ref a ∧ H1 a = some (HO.ins C dx fs) ∧ List.lookup m fs = none ∧ t σ H1 fun vs H2 => sp (x :: (vs ++ [])) H2 Q E) : tMeth C m sp [] E ta t σ H Q := h
theorem rd_str {a : Str} {p : Str → Prop} (q : p a) : ∃ k, V.str a = .str k ∧ p k := ⟨a, rfl, q⟩
theorem rd_bl {b : Bool} {p : Bool → Prop} (q : p b) : ∃ k, V.bl b = .bl k ∧ p k := ⟨b, rfl, q⟩
end
/-! ### promises of an __init__ and of a method -/
section
variable {P : Program} {w : World} {K : PySem.W.Frag} {mg : Str → Option Value} {base : Heap}
theorem fnok_of {x qual : Str} {st : Stmt} {f : Addr} {fd : FuncData} (F : Fun K x qual st f fd) {N ps : List Str} {k : Nat} {sp : Sp} (S : FnScope N ps (defScope st)) (len : ∀ vs H Q E, sp vs H Q E → vs.length = ps.length)
    (hbody : ∀ (cdv : Value) (A : Around) (outer : List Env) (s : Shared) (H : Hp) (vs : List V) (Q : VK) (E : XK), Room k (A.deeper (envOfC qual (defScope st) s.heap.objs.size f cdv)) → sp vs H Q E →
      ∃ t, PSs (cxOf CX0 P w K mg base N qual (defScope st) f cdv A outer s H E).nox (defBody st) t ∧ t { nx := fun _ H' => Q .non H', rt := Q } (start N vs) H) : FnOk P w K mg base CX0 (k + 1) f fd ps sp :=
  F.ok S len (fun cdv A outer s H vs Q E hr h => hbody cdv A outer s H vs Q E hr h)
/-- an __init__ with its promise -/
def HasI (P : Program) (w : World) (K : PySem.W.Frag) (mg : Str → Option Value) (base : Heap) (C : Addr) (k : Nat) (ps : List Str) (sp : Sp) : Prop := ∃ f fd, Mk K C f ∧ FnOk P w K mg base CX0 k f fd ps sp ∧ L2.Binds K fd ps []
/-- a method with its promise -/
def HasM (P : Program) (w : World) (K : PySem.W.Frag) (mg : Str → Option Value) (base : Heap) (C : Addr) (m : Str) (k : Nat) (ps : List Str) (sp : Sp) : Prop := Cls K C ∧ ∃ f fd, Meth K C m f ∧ FnOk P w K mg base CX0 k f fd ps sp ∧ L2.Binds K fd ps []
end
end SP
namespace SP
open PySem PySem.Spec PyProof.Rows L2 LamX
open PySem.Calls
/-! ### the head: the part of the heap that the proof reads, and the run of the top, look by look -/
/-- objects as the top leaves them -/
def KF : Params → PySem.W.Frag := fun P =>
  (nat_lit 2, ⟨.none, none, (.dict (List.toArray []) 0), (List.toArray [])⟩) ::
  (nat_lit 3, ⟨(.type "dict"), none, (.dict (List.toArray [(PySem.DictEntry.mk (PySem.PyData.keyHash P (.ofString "__name__")) (.str (.ofString "__name__") 165) (.str (.ofString "starplaces.atlas") 1166)), (PySem.DictEntry.mk (PySem.PyData.keyHash P (.ofString "__doc__")) (.str (.ofString "__doc__") 166) .none), (PySem.DictEntry.mk (PySem.PyData.keyHash P (.ofString "__package__")) (.str (.ofString "__package__") 167) .none), (PySem.DictEntry.mk (PySem.PyData.keyHash P (.ofString "__loader__")) (.str (.ofString "__loader__") 168) (.builtin "__main__.__loader__#opaque")), (PySem.DictEntry.mk (PySem.PyData.keyHash P (.ofString "__spec__")) (.str (.ofString "__spec__") 169) .none), (PySem.DictEntry.mk (PySem.PyData.keyHash P (.ofString "__annotations__")) (.str (.ofString "__annotations__") 170) (.ref 6)), (PySem.DictEntry.mk (PySem.PyData.keyHash P (.ofString "__builtins__")) (.str (.ofString "__builtins__") 171) (.ref 4)), (PySem.DictEntry.mk (PySem.PyData.keyHash P (.ofString "__file__")) (.str (.ofString "__file__") 173) (.str (.ofString "/claim/cut.py") 172)), (PySem.DictEntry.mk (PySem.PyData.keyHash P (.ofString "__cached__")) (.str (.ofString "__cached__") 174) .none), (PySem.DictEntry.mk (PySem.PyData.keyHash P (.ofString "ONE")) (.str (.ofString "ONE") 190) (.int 1000000000000000000 189)), (PySem.DictEntry.mk (PySem.PyData.keyHash P (.ofString "SCALED_PI")) (.str (.ofString "SCALED_PI") 192) (.int 3141592653589793238 191)), (PySem.DictEntry.mk (PySem.PyData.keyHash P (.ofString "TURN")) (.str (.ofString "TURN") 194) (.int 1296000000 193)), (PySem.DictEntry.mk (PySem.PyData.keyHash P (.ofString "HALF_TURN")) (.str (.ofString "HALF_TURN") 196) (.int 648000000 195)), (PySem.DictEntry.mk (PySem.PyData.keyHash P (.ofString "QUARTER")) (.str (.ofString "QUARTER") 198) (.int 324000000 197)), (PySem.DictEntry.mk (PySem.PyData.keyHash P (.ofString "TERM_COUNT")) (.str (.ofString "TERM_COUNT") 200) (.int 12 199)), (PySem.DictEntry.mk (PySem.PyData.keyHash P (.ofString "alternating_sum")) (.str (.ofString "alternating_sum") 213) (.ref 21)), (PySem.DictEntry.mk (PySem.PyData.keyHash P (.ofString "sine_series")) (.str (.ofString "sine_series") 221) (.ref 28)), (PySem.DictEntry.mk (PySem.PyData.keyHash P (.ofString "cosine_series")) (.str (.ofString "cosine_series") 229) (.ref 35)), (PySem.DictEntry.mk (PySem.PyData.keyHash P (.ofString "quarter_sine")) (.str (.ofString "quarter_sine") 236) (.ref 42)), (PySem.DictEntry.mk (PySem.PyData.keyHash P (.ofString "quarter_cosine")) (.str (.ofString "quarter_cosine") 243) (.ref 49)), (PySem.DictEntry.mk (PySem.PyData.keyHash P (.ofString "sine")) (.str (.ofString "sine") 253) (.ref 56)), (PySem.DictEntry.mk (PySem.PyData.keyHash P (.ofString "cosine")) (.str (.ofString "cosine") 260) (.ref 63)), (PySem.DictEntry.mk (PySem.PyData.keyHash P (.ofString "halve")) (.str (.ofString "halve") 272) (.ref 70)), (PySem.DictEntry.mk (PySem.PyData.keyHash P (.ofString "arcsin")) (.str (.ofString "arcsin") 281) (.ref 77)), (PySem.DictEntry.mk (PySem.PyData.keyHash P (.ofString "quarter_direction")) (.str (.ofString "quarter_direction") 291) (.ref 84)), (PySem.DictEntry.mk (PySem.PyData.keyHash P (.ofString "direction")) (.str (.ofString "direction") 299) (.ref 91)), (PySem.DictEntry.mk (PySem.PyData.keyHash P (.ofString "DAY")) (.str (.ofString "DAY") 303) (.int 86400 302)), (PySem.DictEntry.mk (PySem.PyData.keyHash P (.ofString "NOON")) (.str (.ofString "NOON") 305) (.int 43200 304)), (PySem.DictEntry.mk (PySem.PyData.keyHash P (.ofString "START_YEAR")) (.str (.ofString "START_YEAR") 307) (.int 2000 306)), (PySem.DictEntry.mk (PySem.PyData.keyHash P (.ofString "FIRST_YEAR")) (.str (.ofString "FIRST_YEAR") 309) (.int 1700 308)), (PySem.DictEntry.mk (PySem.PyData.keyHash P (.ofString "LAST_YEAR")) (.str (.ofString "LAST_YEAR") 311) (.int 2300 310)), (PySem.DictEntry.mk (PySem.PyData.keyHash P (.ofString "DAYS_IN_400_YEARS")) (.str (.ofString "DAYS_IN_400_YEARS") 313) (.int 146097 312)), (PySem.DictEntry.mk (PySem.PyData.keyHash P (.ofString "FEBRUARY")) (.str (.ofString "FEBRUARY") 315) (.int 2 314)), (PySem.DictEntry.mk (PySem.PyData.keyHash P (.ofString "MONTH_LENGTHS")) (.str (.ofString "MONTH_LENGTHS") 328) (.ref 92)), (PySem.DictEntry.mk (PySem.PyData.keyHash P (.ofString "is_leap_year")) (.str (.ofString "is_leap_year") 335) (.ref 99)), (PySem.DictEntry.mk (PySem.PyData.keyHash P (.ofString "month_length")) (.str (.ofString "month_length") 343) (.ref 106)), (PySem.DictEntry.mk (PySem.PyData.keyHash P (.ofString "days_before_year")) (.str (.ofString "days_before_year") 351) (.ref 113)), (PySem.DictEntry.mk (PySem.PyData.keyHash P (.ofString "days_before_month")) (.str (.ofString "days_before_month") 357) (.ref 118)), (PySem.DictEntry.mk (PySem.PyData.keyHash P (.ofString "year_of")) (.str (.ofString "year_of") 365) (.ref 125)), (PySem.DictEntry.mk (PySem.PyData.keyHash P (.ofString "date_of")) (.str (.ofString "date_of") 378) (.ref 132)), (PySem.DictEntry.mk (PySem.PyData.keyHash P (.ofString "is_date")) (.str (.ofString "is_date") 388) (.ref 139)), (PySem.DictEntry.mk (PySem.PyData.keyHash P (.ofString "moment_of")) (.str (.ofString "moment_of") 399) (.ref 146)), (PySem.DictEntry.mk (PySem.PyData.keyHash P (.ofString "TEXT_NOT_ALLOWED")) (.str (.ofString "TEXT_NOT_ALLOWED") 401) (.int 1 400)), (PySem.DictEntry.mk (PySem.PyData.keyHash P (.ofString "OUT_OF_RANGE")) (.str (.ofString "OUT_OF_RANGE") 403) (.int 2 402)), (PySem.DictEntry.mk (PySem.PyData.keyHash P (.ofString "NO_SUCH_STAR")) (.str (.ofString "NO_SUCH_STAR") 405) (.int 3 404)), (PySem.DictEntry.mk (PySem.PyData.keyHash P (.ofString "TEXT_ERROR")) (.str (.ofString "TEXT_ERROR") 407) (.int 10 406)), (PySem.DictEntry.mk (PySem.PyData.keyHash P (.ofString "YEAR")) (.str (.ofString "YEAR") 411) (.int 31557600 410)), (PySem.DictEntry.mk (PySem.PyData.keyHash P (.ofString "LAST_MOMENT")) (.str (.ofString "LAST_MOMENT") 413) (.int 10000000000 412)), (PySem.DictEntry.mk (PySem.PyData.keyHash P (.ofString "SIDEREAL_START")) (.str (.ofString "SIDEREAL_START") 415) (.int 1009658226 414)), (PySem.DictEntry.mk (PySem.PyData.keyHash P (.ofString "SIDEREAL_GAIN")) (.str (.ofString "SIDEREAL_GAIN") 417) (.int 1299548330518644 416)), (PySem.DictEntry.mk (PySem.PyData.keyHash P (.ofString "SIDEREAL_SPAN")) (.str (.ofString "SIDEREAL_SPAN") 419) (.int 86400000000 418)), (PySem.DictEntry.mk (PySem.PyData.keyHash P (.ofString "is_moment")) (.str (.ofString "is_moment") 426) (.ref 153)), (PySem.DictEntry.mk (PySem.PyData.keyHash P (.ofString "sidereal_time")) (.str (.ofString "sidereal_time") 433) (.ref 160)), (PySem.DictEntry.mk (PySem.PyData.keyHash P (.ofString "date_answer")) (.str (.ofString "date_answer") 442) (.ref 167)), (PySem.DictEntry.mk (PySem.PyData.keyHash P (.ofString "moment_answer")) (.str (.ofString "moment_answer") 452) (.ref 174)), (PySem.DictEntry.mk (PySem.PyData.keyHash P (.ofString "sidereal_answer")) (.str (.ofString "sidereal_answer") 459) (.ref 181)), (PySem.DictEntry.mk (PySem.PyData.keyHash P (.ofString "sines_answer")) (.str (.ofString "sines_answer") 466) (.ref 188)), (PySem.DictEntry.mk (PySem.PyData.keyHash P (.ofString "angles_answer")) (.str (.ofString "angles_answer") 474) (.ref 195)), (PySem.DictEntry.mk (PySem.PyData.keyHash P (.ofString "vector_at")) (.str (.ofString "vector_at") 486) (.ref 202)), (PySem.DictEntry.mk (PySem.PyData.keyHash P (.ofString "longitude_and_latitude")) (.str (.ofString "longitude_and_latitude") 496) (.ref 209)), (PySem.DictEntry.mk (PySem.PyData.keyHash P (.ofString "rotated_x")) (.str (.ofString "rotated_x") 509) (.ref 216)), (PySem.DictEntry.mk (PySem.PyData.keyHash P (.ofString "rotated_y")) (.str (.ofString "rotated_y") 522) (.ref 223)), (PySem.DictEntry.mk (PySem.PyData.keyHash P (.ofString "rotated_z")) (.str (.ofString "rotated_z") 535) (.ref 230)), (PySem.DictEntry.mk (PySem.PyData.keyHash P (.ofString "square_root")) (.str (.ofString "square_root") 544) (.ref 237)), (PySem.DictEntry.mk (PySem.PyData.keyHash P (.ofString "square_of_distance")) (.str (.ofString "square_of_distance") 550) (.ref 242)), (PySem.DictEntry.mk (PySem.PyData.keyHash P (.ofString "separation_at")) (.str (.ofString "separation_at") 557) (.ref 249)), (PySem.DictEntry.mk (PySem.PyData.keyHash P (.ofString "separation_of")) (.str (.ofString "separation_of") 565) (.ref 256)), (PySem.DictEntry.mk (PySem.PyData.keyHash P (.ofString "is_within")) (.str (.ofString "is_within") 575) (.ref 263)), (PySem.DictEntry.mk (PySem.PyData.keyHash P (.ofString "CENTURY")) (.str (.ofString "CENTURY") 579) (.int 3155760000 578)), (PySem.DictEntry.mk (PySem.PyData.keyHash P (.ofString "PRECESSION_P")) (.str (.ofString "PRECESSION_P") 581) (.int 2306218 580)), (PySem.DictEntry.mk (PySem.PyData.keyHash P (.ofString "PRECESSION_N")) (.str (.ofString "PRECESSION_N") 583) (.int 2004311 582)), (PySem.DictEntry.mk (PySem.PyData.keyHash P (.ofString "OBLIQUITY")) (.str (.ofString "OBLIQUITY") 585) (.int 84381448 584)), (PySem.DictEntry.mk (PySem.PyData.keyHash P (.ofString "Star")) (.str (.ofString "Star") 623) (.ref 280)), (PySem.DictEntry.mk (PySem.PyData.keyHash P (.ofString "moved_vector")) (.str (.ofString "moved_vector") 633) (.ref 291)), (PySem.DictEntry.mk (PySem.PyData.keyHash P (.ofString "place_vector")) (.str (.ofString "place_vector") 644) (.ref 298)), (PySem.DictEntry.mk (PySem.PyData.keyHash P (.ofString "ecliptic_vector")) (.str (.ofString "ecliptic_vector") 651) (.ref 305)), (PySem.DictEntry.mk (PySem.PyData.keyHash P (.ofString "horizontal_vector")) (.str (.ofString "horizontal_vector") 666) (.ref 312)), (PySem.DictEntry.mk (PySem.PyData.keyHash P (.ofString "found_stars")) (.str (.ofString "found_stars") 683) (.ref 319)), (PySem.DictEntry.mk (PySem.PyData.keyHash P (.ofString "squares_from")) (.str (.ofString "squares_from") 689) (.ref 324)), (PySem.DictEntry.mk (PySem.PyData.keyHash P (.ofString "nearest_number")) (.str (.ofString "nearest_number") 698) (.ref 331)), (PySem.DictEntry.mk (PySem.PyData.keyHash P (.ofString "matches_of")) (.str (.ofString "matches_of") 704) (.ref 336)), (PySem.DictEntry.mk (PySem.PyData.keyHash P (.ofString "LINE_FEED")) (.str (.ofString "LINE_FEED") 708) (.int 10 707)), (PySem.DictEntry.mk (PySem.PyData.keyHash P (.ofString "SPACE")) (.str (.ofString "SPACE") 710) (.int 32 709)), (PySem.DictEntry.mk (PySem.PyData.keyHash P (.ofString "MINUS")) (.str (.ofString "MINUS") 712) (.int 45 711)), (PySem.DictEntry.mk (PySem.PyData.keyHash P (.ofString "POINT")) (.str (.ofString "POINT") 714) (.int 46 713)), (PySem.DictEntry.mk (PySem.PyData.keyHash P (.ofString "ZERO")) (.str (.ofString "ZERO") 716) (.int 48 715)), (PySem.DictEntry.mk (PySem.PyData.keyHash P (.ofString "NINE")) (.str (.ofString "NINE") 718) (.int 57 717)), (PySem.DictEntry.mk (PySem.PyData.keyHash P (.ofString "SMALL_A")) (.str (.ofString "SMALL_A") 720) (.int 97 719)), (PySem.DictEntry.mk (PySem.PyData.keyHash P (.ofString "SMALL_Z")) (.str (.ofString "SMALL_Z") 722) (.int 122 721)), (PySem.DictEntry.mk (PySem.PyData.keyHash P (.ofString "LONGEST_NAME")) (.str (.ofString "LONGEST_NAME") 724) (.int 12 723)), (PySem.DictEntry.mk (PySem.PyData.keyHash P (.ofString "SECOND_OF_TIME")) (.str (.ofString "SECOND_OF_TIME") 726) (.int 15 725)), (PySem.DictEntry.mk (PySem.PyData.keyHash P (.ofString "RIGHT_ANGLE")) (.str (.ofString "RIGHT_ANGLE") 728) (.int 324000000 727)), (PySem.DictEntry.mk (PySem.PyData.keyHash P (.ofString "ANGLE_FORM")) (.str (.ofString "ANGLE_FORM") 730) (.str (.ofString "dd:dd:dd.ddd") 729)), (PySem.DictEntry.mk (PySem.PyData.keyHash P (.ofString "MAGNITUDE_FORMS")) (.str (.ofString "MAGNITUDE_FORMS") 739) (.ref 337)), (PySem.DictEntry.mk (PySem.PyData.keyHash P (.ofString "MOTION_FORMS")) (.str (.ofString "MOTION_FORMS") 745) (.ref 338)), (PySem.DictEntry.mk (PySem.PyData.keyHash P (.ofString "is_digit")) (.str (.ofString "is_digit") 752) (.ref 345)), (PySem.DictEntry.mk (PySem.PyData.keyHash P (.ofString "is_small_letter")) (.str (.ofString "is_small_letter") 759) (.ref 352)), (PySem.DictEntry.mk (PySem.PyData.keyHash P (.ofString "fits")) (.str (.ofString "fits") 769) (.ref 359)), (PySem.DictEntry.mk (PySem.PyData.keyHash P (.ofString "number_of")) (.str (.ofString "number_of") 778) (.ref 366)), (PySem.DictEntry.mk (PySem.PyData.keyHash P (.ofString "without_minus")) (.str (.ofString "without_minus") 785) (.ref 373)), (PySem.DictEntry.mk (PySem.PyData.keyHash P (.ofString "with_sign_of")) (.str (.ofString "with_sign_of") 793) (.ref 380)), (PySem.DictEntry.mk (PySem.PyData.keyHash P (.ofString "thousandths")) (.str (.ofString "thousandths") 801) (.ref 387)), (PySem.DictEntry.mk (PySem.PyData.keyHash P (.ofString "is_sixtieths")) (.str (.ofString "is_sixtieths") 808) (.ref 394)), (PySem.DictEntry.mk (PySem.PyData.keyHash P (.ofString "is_name")) (.str (.ofString "is_name") 814) (.ref 399)), (PySem.DictEntry.mk (PySem.PyData.keyHash P (.ofString "is_right_ascension")) (.str (.ofString "is_right_ascension") 821) (.ref 406)), (PySem.DictEntry.mk (PySem.PyData.keyHash P (.ofString "right_ascension_of")) (.str (.ofString "right_ascension_of") 828) (.ref 413)), (PySem.DictEntry.mk (PySem.PyData.keyHash P (.ofString "is_declination")) (.str (.ofString "is_declination") 835) (.ref 420)), (PySem.DictEntry.mk (PySem.PyData.keyHash P (.ofString "declination_of")) (.str (.ofString "declination_of") 842) (.ref 427)), (PySem.DictEntry.mk (PySem.PyData.keyHash P (.ofString "is_magnitude")) (.str (.ofString "is_magnitude") 848) (.ref 432)), (PySem.DictEntry.mk (PySem.PyData.keyHash P (.ofString "magnitude_of")) (.str (.ofString "magnitude_of") 858) (.ref 439)), (PySem.DictEntry.mk (PySem.PyData.keyHash P (.ofString "is_motion")) (.str (.ofString "is_motion") 864) (.ref 444)), (PySem.DictEntry.mk (PySem.PyData.keyHash P (.ofString "motion_of")) (.str (.ofString "motion_of") 871) (.ref 451)), (PySem.DictEntry.mk (PySem.PyData.keyHash P (.ofString "LONGEST_TEXT")) (.str (.ofString "LONGEST_TEXT") 875) (.int 6000 874)), (PySem.DictEntry.mk (PySem.PyData.keyHash P (.ofString "LAST_BYTE")) (.str (.ofString "LAST_BYTE") 877) (.int 126 876)), (PySem.DictEntry.mk (PySem.PyData.keyHash P (.ofString "MOST_STARS")) (.str (.ofString "MOST_STARS") 879) (.int 60 878)), (PySem.DictEntry.mk (PySem.PyData.keyHash P (.ofString "NUMBER_SIGN")) (.str (.ofString "NUMBER_SIGN") 881) (.int 35 880)), (PySem.DictEntry.mk (PySem.PyData.keyHash P (.ofString "is_allowed")) (.str (.ofString "is_allowed") 887) (.ref 456)), (PySem.DictEntry.mk (PySem.PyData.keyHash P (.ofString "parted")) (.str (.ofString "parted") 898) (.ref 463)), (PySem.DictEntry.mk (PySem.PyData.keyHash P (.ofString "words_of")) (.str (.ofString "words_of") 904) (.ref 468)), (PySem.DictEntry.mk (PySem.PyData.keyHash P (.ofString "is_ignored")) (.str (.ofString "is_ignored") 911) (.ref 475)), (PySem.DictEntry.mk (PySem.PyData.keyHash P (.ofString "index_of_name")) (.str (.ofString "index_of_name") 921) (.ref 482)), (PySem.DictEntry.mk (PySem.PyData.keyHash P (.ofString "error_kind")) (.str (.ofString "error_kind") 929) (.ref 489)), (PySem.DictEntry.mk (PySem.PyData.keyHash P (.ofString "star_of")) (.str (.ofString "star_of") 937) (.ref 496)), (PySem.DictEntry.mk (PySem.PyData.keyHash P (.ofString "read_catalogue")) (.str (.ofString "read_catalogue") 949) (.ref 503)), (PySem.DictEntry.mk (PySem.PyData.keyHash P (.ofString "sign_before")) (.str (.ofString "sign_before") 956) (.ref 510)), (PySem.DictEntry.mk (PySem.PyData.keyHash P (.ofString "digits_of")) (.str (.ofString "digits_of") 964) (.ref 517)), (PySem.DictEntry.mk (PySem.PyData.keyHash P (.ofString "sixtieths")) (.str (.ofString "sixtieths") 976) (.ref 524)), (PySem.DictEntry.mk (PySem.PyData.keyHash P (.ofString "declination_text")) (.str (.ofString "declination_text") 984) (.ref 531)), (PySem.DictEntry.mk (PySem.PyData.keyHash P (.ofString "magnitude_text")) (.str (.ofString "magnitude_text") 992) (.ref 538)), (PySem.DictEntry.mk (PySem.PyData.keyHash P (.ofString "star_line")) (.str (.ofString "star_line") 998) (.ref 543)), (PySem.DictEntry.mk (PySem.PyData.keyHash P (.ofString "written_catalogue")) (.str (.ofString "written_catalogue") 1007) (.ref 550)), (PySem.DictEntry.mk (PySem.PyData.keyHash P (.ofString "is_observation")) (.str (.ofString "is_observation") 1018) (.ref 557)), (PySem.DictEntry.mk (PySem.PyData.keyHash P (.ofString "is_search")) (.str (.ofString "is_search") 1027) (.ref 564)), (PySem.DictEntry.mk (PySem.PyData.keyHash P (.ofString "Session")) (.str (.ofString "Session") 1165) (.ref 651)), (PySem.DictEntry.mk (PySem.PyData.keyHash P (.ofString "LOAD")) (.str (.ofString "LOAD") 1169) (.int 0 1168)), (PySem.DictEntry.mk (PySem.PyData.keyHash P (.ofString "STAR")) (.str (.ofString "STAR") 1171) (.int 1 1170)), (PySem.DictEntry.mk (PySem.PyData.keyHash P (.ofString "FIND")) (.str (.ofString "FIND") 1173) (.int 2 1172)), (PySem.DictEntry.mk (PySem.PyData.keyHash P (.ofString "EXPORT")) (.str (.ofString "EXPORT") 1175) (.int 3 1174)), (PySem.DictEntry.mk (PySem.PyData.keyHash P (.ofString "PLACE")) (.str (.ofString "PLACE") 1177) (.int 4 1176)), (PySem.DictEntry.mk (PySem.PyData.keyHash P (.ofString "HORIZON")) (.str (.ofString "HORIZON") 1179) (.int 5 1178)), (PySem.DictEntry.mk (PySem.PyData.keyHash P (.ofString "ECLIPTIC")) (.str (.ofString "ECLIPTIC") 1181) (.int 6 1180)), (PySem.DictEntry.mk (PySem.PyData.keyHash P (.ofString "SEPARATION")) (.str (.ofString "SEPARATION") 1183) (.int 7 1182)), (PySem.DictEntry.mk (PySem.PyData.keyHash P (.ofString "CONE")) (.str (.ofString "CONE") 1185) (.int 8 1184)), (PySem.DictEntry.mk (PySem.PyData.keyHash P (.ofString "MATCH")) (.str (.ofString "MATCH") 1187) (.int 9 1186)), (PySem.DictEntry.mk (PySem.PyData.keyHash P (.ofString "DATE")) (.str (.ofString "DATE") 1189) (.int 10 1188)), (PySem.DictEntry.mk (PySem.PyData.keyHash P (.ofString "MOMENT")) (.str (.ofString "MOMENT") 1191) (.int 11 1190)), (PySem.DictEntry.mk (PySem.PyData.keyHash P (.ofString "SIDEREAL")) (.str (.ofString "SIDEREAL") 1193) (.int 12 1192)), (PySem.DictEntry.mk (PySem.PyData.keyHash P (.ofString "SINES")) (.str (.ofString "SINES") 1195) (.int 13 1194)), (PySem.DictEntry.mk (PySem.PyData.keyHash P (.ofString "NUMBER_COUNTS")) (.str (.ofString "NUMBER_COUNTS") 1211) (.ref 656)), (PySem.DictEntry.mk (PySem.PyData.keyHash P (.ofString "has_row")) (.str (.ofString "has_row") 1218) (.ref 663)), (PySem.DictEntry.mk (PySem.PyData.keyHash P (.ofString "split_calls")) (.str (.ofString "split_calls") 1232) (.ref 670)), (PySem.DictEntry.mk (PySem.PyData.keyHash P (.ofString "conversion_answer")) (.str (.ofString "conversion_answer") 1240) (.ref 677)), (PySem.DictEntry.mk (PySem.PyData.keyHash P (.ofString "answer_to")) (.str (.ofString "answer_to") 1250) (.ref 684)), (PySem.DictEntry.mk (PySem.PyData.keyHash P (.ofString "answers")) (.str (.ofString "answers") 1263) (.ref 691))]) 154), (List.toArray [])⟩) ::
  (nat_lit 20, ⟨(.type "code"), none, (.fields (List.toArray [(.str (.ofString "alternating_sum") 201), (.str (.ofString "alternating_sum") 202), (.str (.ofString "/claim/cut.py") 203), (.int 8 0), (.int 3 0), (.int 0 0), (.int 0 0), (.int 3 0), (.ref 15), (.bool true), (.int 181 0), (.ref 16), .none, (.ref 17), (.ref 18), (.ref 19), (.int 211 0), (.int 8 0), (.str (.ofString "/claim/cut.py") 212)])), (List.toArray [])⟩) ::
  (nat_lit 21, ⟨(.type "function"), none, (.func ⟨(.ofString "alternating_sum"), (.ofString "alternating_sum"), defArgs (top 7), .stmts (defBody (top 7)), defScope (top 7), 3, [], .none, .none, .none, (.str (.ofString "starplaces.angles") 187), none, (.ref 20), .none, 0⟩), (List.toArray [])⟩) ::
  (nat_lit 27, ⟨(.type "code"), none, (.fields (List.toArray [(.str (.ofString "sine_series") 214), (.str (.ofString "sine_series") 215), (.str (.ofString "/claim/cut.py") 216), (.int 19 0), (.int 1 0), (.int 0 0), (.int 0 0), (.int 3 0), (.ref 22), (.bool true), (.int 181 0), (.ref 23), .none, (.ref 24), (.ref 25), (.ref 26), (.int 219 0), (.int 19 0), (.str (.ofString "/claim/cut.py") 220)])), (List.toArray [])⟩) ::
  (nat_lit 28, ⟨(.type "function"), none, (.func ⟨(.ofString "sine_series"), (.ofString "sine_series"), defArgs (top 8), .stmts (defBody (top 8)), defScope (top 8), 3, [], .none, .none, .none, (.str (.ofString "starplaces.angles") 187), none, (.ref 27), .none, 0⟩), (List.toArray [])⟩) ::
  (nat_lit 34, ⟨(.type "code"), none, (.fields (List.toArray [(.str (.ofString "cosine_series") 222), (.str (.ofString "cosine_series") 223), (.str (.ofString "/claim/cut.py") 224), (.int 22 0), (.int 1 0), (.int 0 0), (.int 0 0), (.int 3 0), (.ref 29), (.bool true), (.int 181 0), (.ref 30), .none, (.ref 31), (.ref 32), (.ref 33), (.int 227 0), (.int 22 0), (.str (.ofString "/claim/cut.py") 228)])), (List.toArray [])⟩) ::
  (nat_lit 35, ⟨(.type "function"), none, (.func ⟨(.ofString "cosine_series"), (.ofString "cosine_series"), defArgs (top 9), .stmts (defBody (top 9)), defScope (top 9), 3, [], .none, .none, .none, (.str (.ofString "starplaces.angles") 187), none, (.ref 34), .none, 0⟩), (List.toArray [])⟩) ::
  (nat_lit 41, ⟨(.type "code"), none, (.fields (List.toArray [(.str (.ofString "quarter_sine") 230), (.str (.ofString "quarter_sine") 231), (.str (.ofString "/claim/cut.py") 232), (.int 25 0), (.int 1 0), (.int 0 0), (.int 0 0), (.int 3 0), (.ref 36), (.bool true), (.int 181 0), (.ref 37), .none, (.ref 38), (.ref 39), (.ref 40), (.int 234 0), (.int 25 0), (.str (.ofString "/claim/cut.py") 235)])), (List.toArray [])⟩) ::
  (nat_lit 42, ⟨(.type "function"), none, (.func ⟨(.ofString "quarter_sine"), (.ofString "quarter_sine"), defArgs (top 10), .stmts (defBody (top 10)), defScope (top 10), 3, [], .none, .none, .none, (.str (.ofString "starplaces.angles") 187), none, (.ref 41), .none, 0⟩), (List.toArray [])⟩) ::
  (nat_lit 48, ⟨(.type "code"), none, (.fields (List.toArray [(.str (.ofString "quarter_cosine") 237), (.str (.ofString "quarter_cosine") 238), (.str (.ofString "/claim/cut.py") 239), (.int 29 0), (.int 1 0), (.int 0 0), (.int 0 0), (.int 3 0), (.ref 43), (.bool true), (.int 181 0), (.ref 44), .none, (.ref 45), (.ref 46), (.ref 47), (.int 241 0), (.int 29 0), (.str (.ofString "/claim/cut.py") 242)])), (List.toArray [])⟩) ::
  (nat_lit 49, ⟨(.type "function"), none, (.func ⟨(.ofString "quarter_cosine"), (.ofString "quarter_cosine"), defArgs (top 11), .stmts (defBody (top 11)), defScope (top 11), 3, [], .none, .none, .none, (.str (.ofString "starplaces.angles") 187), none, (.ref 48), .none, 0⟩), (List.toArray [])⟩) ::
  (nat_lit 55, ⟨(.type "code"), none, (.fields (List.toArray [(.str (.ofString "sine") 244), (.str (.ofString "sine") 245), (.str (.ofString "/claim/cut.py") 246), (.int 33 0), (.int 1 0), (.int 0 0), (.int 0 0), (.int 3 0), (.ref 50), (.bool true), (.int 181 0), (.ref 51), .none, (.ref 52), (.ref 53), (.ref 54), (.int 251 0), (.int 33 0), (.str (.ofString "/claim/cut.py") 252)])), (List.toArray [])⟩) ::
  (nat_lit 56, ⟨(.type "function"), none, (.func ⟨(.ofString "sine"), (.ofString "sine"), defArgs (top 12), .stmts (defBody (top 12)), defScope (top 12), 3, [], .none, .none, .none, (.str (.ofString "starplaces.angles") 187), none, (.ref 55), .none, 0⟩), (List.toArray [])⟩) ::
  (nat_lit 62, ⟨(.type "code"), none, (.fields (List.toArray [(.str (.ofString "cosine") 254), (.str (.ofString "cosine") 255), (.str (.ofString "/claim/cut.py") 256), (.int 44 0), (.int 1 0), (.int 0 0), (.int 0 0), (.int 3 0), (.ref 57), (.bool true), (.int 181 0), (.ref 58), .none, (.ref 59), (.ref 60), (.ref 61), (.int 258 0), (.int 44 0), (.str (.ofString "/claim/cut.py") 259)])), (List.toArray [])⟩) ::
  (nat_lit 63, ⟨(.type "function"), none, (.func ⟨(.ofString "cosine"), (.ofString "cosine"), defArgs (top 13), .stmts (defBody (top 13)), defScope (top 13), 3, [], .none, .none, .none, (.str (.ofString "starplaces.angles") 187), none, (.ref 62), .none, 0⟩), (List.toArray [])⟩) ::
  (nat_lit 69, ⟨(.type "code"), none, (.fields (List.toArray [(.str (.ofString "halve") 261), (.str (.ofString "halve") 262), (.str (.ofString "/claim/cut.py") 263), (.int 46 0), (.int 3 0), (.int 0 0), (.int 0 0), (.int 3 0), (.ref 64), (.bool true), (.int 181 0), (.ref 65), .none, (.ref 66), (.ref 67), (.ref 68), (.int 270 0), (.int 46 0), (.str (.ofString "/claim/cut.py") 271)])), (List.toArray [])⟩) ::
  (nat_lit 70, ⟨(.type "function"), none, (.func ⟨(.ofString "halve"), (.ofString "halve"), defArgs (top 14), .stmts (defBody (top 14)), defScope (top 14), 3, [], .none, .none, .none, (.str (.ofString "starplaces.angles") 187), none, (.ref 69), .none, 0⟩), (List.toArray [])⟩) ::
  (nat_lit 76, ⟨(.type "code"), none, (.fields (List.toArray [(.str (.ofString "arcsin") 273), (.str (.ofString "arcsin") 274), (.str (.ofString "/claim/cut.py") 275), (.int 56 0), (.int 1 0), (.int 0 0), (.int 0 0), (.int 3 0), (.ref 71), (.bool true), (.int 181 0), (.ref 72), .none, (.ref 73), (.ref 74), (.ref 75), (.int 279 0), (.int 56 0), (.str (.ofString "/claim/cut.py") 280)])), (List.toArray [])⟩) ::
  (nat_lit 77, ⟨(.type "function"), none, (.func ⟨(.ofString "arcsin"), (.ofString "arcsin"), defArgs (top 15), .stmts (defBody (top 15)), defScope (top 15), 3, [], .none, .none, .none, (.str (.ofString "starplaces.angles") 187), none, (.ref 76), .none, 0⟩), (List.toArray [])⟩) ::
  (nat_lit 83, ⟨(.type "code"), none, (.fields (List.toArray [(.str (.ofString "quarter_direction") 282), (.str (.ofString "quarter_direction") 283), (.str (.ofString "/claim/cut.py") 284), (.int 62 0), (.int 2 0), (.int 0 0), (.int 0 0), (.int 3 0), (.ref 78), (.bool true), (.int 181 0), (.ref 79), .none, (.ref 80), (.ref 81), (.ref 82), (.int 289 0), (.int 62 0), (.str (.ofString "/claim/cut.py") 290)])), (List.toArray [])⟩) ::
  (nat_lit 84, ⟨(.type "function"), none, (.func ⟨(.ofString "quarter_direction"), (.ofString "quarter_direction"), defArgs (top 16), .stmts (defBody (top 16)), defScope (top 16), 3, [], .none, .none, .none, (.str (.ofString "starplaces.angles") 187), none, (.ref 83), .none, 0⟩), (List.toArray [])⟩) ::
  (nat_lit 90, ⟨(.type "code"), none, (.fields (List.toArray [(.str (.ofString "direction") 292), (.str (.ofString "direction") 293), (.str (.ofString "/claim/cut.py") 294), (.int 64 0), (.int 2 0), (.int 0 0), (.int 0 0), (.int 3 0), (.ref 85), (.bool true), (.int 181 0), (.ref 86), .none, (.ref 87), (.ref 88), (.ref 89), (.int 297 0), (.int 64 0), (.str (.ofString "/claim/cut.py") 298)])), (List.toArray [])⟩) ::
  (nat_lit 91, ⟨(.type "function"), none, (.func ⟨(.ofString "direction"), (.ofString "direction"), defArgs (top 17), .stmts (defBody (top 17)), defScope (top 17), 3, [], .none, .none, .none, (.str (.ofString "starplaces.angles") 187), none, (.ref 90), .none, 0⟩), (List.toArray [])⟩) ::
  (nat_lit 92, ⟨(.type "tuple"), none, (.seq (List.toArray [(.int 31 316), (.int 28 317), (.int 31 318), (.int 30 319), (.int 31 320), (.int 30 321), (.int 31 322), (.int 31 323), (.int 30 324), (.int 31 325), (.int 30 326), (.int 31 327)]) 0), (List.toArray [])⟩) ::
  (nat_lit 98, ⟨(.type "code"), none, (.fields (List.toArray [(.str (.ofString "is_leap_year") 329), (.str (.ofString "is_leap_year") 330), (.str (.ofString "/claim/cut.py") 331), (.int 83 0), (.int 1 0), (.int 0 0), (.int 0 0), (.int 3 0), (.ref 93), (.bool true), (.int 181 0), (.ref 94), .none, (.ref 95), (.ref 96), (.ref 97), (.int 333 0), (.int 83 0), (.str (.ofString "/claim/cut.py") 334)])), (List.toArray [])⟩) ::
  (nat_lit 99, ⟨(.type "function"), none, (.func ⟨(.ofString "is_leap_year"), (.ofString "is_leap_year"), defArgs (top 27), .stmts (defBody (top 27)), defScope (top 27), 3, [], .none, .none, .none, (.str (.ofString "starplaces.dates") 300), none, (.ref 98), .none, 0⟩), (List.toArray [])⟩) ::
  (nat_lit 105, ⟨(.type "code"), none, (.fields (List.toArray [(.str (.ofString "month_length") 336), (.str (.ofString "month_length") 337), (.str (.ofString "/claim/cut.py") 338), (.int 85 0), (.int 2 0), (.int 0 0), (.int 0 0), (.int 3 0), (.ref 100), (.bool true), (.int 181 0), (.ref 101), .none, (.ref 102), (.ref 103), (.ref 104), (.int 341 0), (.int 85 0), (.str (.ofString "/claim/cut.py") 342)])), (List.toArray [])⟩) ::
  (nat_lit 106, ⟨(.type "function"), none, (.func ⟨(.ofString "month_length"), (.ofString "month_length"), defArgs (top 28), .stmts (defBody (top 28)), defScope (top 28), 3, [], .none, .none, .none, (.str (.ofString "starplaces.dates") 300), none, (.ref 105), .none, 0⟩), (List.toArray [])⟩) ::
  (nat_lit 112, ⟨(.type "code"), none, (.fields (List.toArray [(.str (.ofString "days_before_year") 344), (.str (.ofString "days_before_year") 345), (.str (.ofString "/claim/cut.py") 346), (.int 89 0), (.int 1 0), (.int 0 0), (.int 0 0), (.int 3 0), (.ref 107), (.bool true), (.int 181 0), (.ref 108), .none, (.ref 109), (.ref 110), (.ref 111), (.int 349 0), (.int 89 0), (.str (.ofString "/claim/cut.py") 350)])), (List.toArray [])⟩) ::
  (nat_lit 113, ⟨(.type "function"), none, (.func ⟨(.ofString "days_before_year"), (.ofString "days_before_year"), defArgs (top 29), .stmts (defBody (top 29)), defScope (top 29), 3, [], .none, .none, .none, (.str (.ofString "starplaces.dates") 300), none, (.ref 112), .none, 0⟩), (List.toArray [])⟩) ::
  (nat_lit 117, ⟨(.type "code"), none, (.fields (List.toArray [(.str (.ofString "days_before_month") 352), (.str (.ofString "days_before_month") 353), (.str (.ofString "/claim/cut.py") 354), (.int 92 0), (.int 2 0), (.int 0 0), (.int 0 0), (.int 3 0), (.ref 114), (.bool true), (.int 181 0), (.ref 115), .none, .none, .none, (.ref 116), (.int 355 0), (.int 92 0), (.str (.ofString "/claim/cut.py") 356)])), (List.toArray [])⟩) ::
  (nat_lit 118, ⟨(.type "function"), none, (.func ⟨(.ofString "days_before_month"), (.ofString "days_before_month"), defArgs (top 30), .stmts (defBody (top 30)), defScope (top 30), 3, [], .none, .none, .none, (.str (.ofString "starplaces.dates") 300), none, (.ref 117), .none, 0⟩), (List.toArray [])⟩) ::
  (nat_lit 124, ⟨(.type "code"), none, (.fields (List.toArray [(.str (.ofString "year_of") 358), (.str (.ofString "year_of") 359), (.str (.ofString "/claim/cut.py") 360), (.int 94 0), (.int 1 0), (.int 0 0), (.int 0 0), (.int 3 0), (.ref 119), (.bool true), (.int 181 0), (.ref 120), .none, (.ref 121), (.ref 122), (.ref 123), (.int 363 0), (.int 94 0), (.str (.ofString "/claim/cut.py") 364)])), (List.toArray [])⟩) ::
  (nat_lit 125, ⟨(.type "function"), none, (.func ⟨(.ofString "year_of"), (.ofString "year_of"), defArgs (top 31), .stmts (defBody (top 31)), defScope (top 31), 3, [], .none, .none, .none, (.str (.ofString "starplaces.dates") 300), none, (.ref 124), .none, 0⟩), (List.toArray [])⟩) ::
  (nat_lit 131, ⟨(.type "code"), none, (.fields (List.toArray [(.str (.ofString "date_of") 366), (.str (.ofString "date_of") 367), (.str (.ofString "/claim/cut.py") 368), (.int 99 0), (.int 1 0), (.int 0 0), (.int 0 0), (.int 3 0), (.ref 126), (.bool true), (.int 181 0), (.ref 127), .none, (.ref 128), (.ref 129), (.ref 130), (.int 376 0), (.int 99 0), (.str (.ofString "/claim/cut.py") 377)])), (List.toArray [])⟩) ::
  (nat_lit 132, ⟨(.type "function"), none, (.func ⟨(.ofString "date_of"), (.ofString "date_of"), defArgs (top 32), .stmts (defBody (top 32)), defScope (top 32), 3, [], .none, .none, .none, (.str (.ofString "starplaces.dates") 300), none, (.ref 131), .none, 0⟩), (List.toArray [])⟩) ::
  (nat_lit 138, ⟨(.type "code"), none, (.fields (List.toArray [(.str (.ofString "is_date") 379), (.str (.ofString "is_date") 380), (.str (.ofString "/claim/cut.py") 381), (.int 109 0), (.int 4 0), (.int 0 0), (.int 0 0), (.int 3 0), (.ref 133), (.bool true), (.int 181 0), (.ref 134), .none, (.ref 135), (.ref 136), (.ref 137), (.int 386 0), (.int 109 0), (.str (.ofString "/claim/cut.py") 387)])), (List.toArray [])⟩) ::
  (nat_lit 139, ⟨(.type "function"), none, (.func ⟨(.ofString "is_date"), (.ofString "is_date"), defArgs (top 33), .stmts (defBody (top 33)), defScope (top 33), 3, [], .none, .none, .none, (.str (.ofString "starplaces.dates") 300), none, (.ref 138), .none, 0⟩), (List.toArray [])⟩) ::
  (nat_lit 145, ⟨(.type "code"), none, (.fields (List.toArray [(.str (.ofString "moment_of") 389), (.str (.ofString "moment_of") 390), (.str (.ofString "/claim/cut.py") 391), (.int 115 0), (.int 4 0), (.int 0 0), (.int 0 0), (.int 3 0), (.ref 140), (.bool true), (.int 181 0), (.ref 141), .none, (.ref 142), (.ref 143), (.ref 144), (.int 397 0), (.int 115 0), (.str (.ofString "/claim/cut.py") 398)])), (List.toArray [])⟩) ::
  (nat_lit 146, ⟨(.type "function"), none, (.func ⟨(.ofString "moment_of"), (.ofString "moment_of"), defArgs (top 34), .stmts (defBody (top 34)), defScope (top 34), 3, [], .none, .none, .none, (.str (.ofString "starplaces.dates") 300), none, (.ref 145), .none, 0⟩), (List.toArray [])⟩) ::
  (nat_lit 152, ⟨(.type "code"), none, (.fields (List.toArray [(.str (.ofString "is_moment") 420), (.str (.ofString "is_moment") 421), (.str (.ofString "/claim/cut.py") 422), (.int 128 0), (.int 1 0), (.int 0 0), (.int 0 0), (.int 3 0), (.ref 147), (.bool true), (.int 181 0), (.ref 148), .none, (.ref 149), (.ref 150), (.ref 151), (.int 424 0), (.int 128 0), (.str (.ofString "/claim/cut.py") 425)])), (List.toArray [])⟩) ::
  (nat_lit 153, ⟨(.type "function"), none, (.func ⟨(.ofString "is_moment"), (.ofString "is_moment"), defArgs (top 45), .stmts (defBody (top 45)), defScope (top 45), 3, [], .none, .none, .none, (.str (.ofString "starplaces.times") 408), none, (.ref 152), .none, 0⟩), (List.toArray [])⟩) ::
  (nat_lit 159, ⟨(.type "code"), none, (.fields (List.toArray [(.str (.ofString "sidereal_time") 427), (.str (.ofString "sidereal_time") 428), (.str (.ofString "/claim/cut.py") 429), (.int 130 0), (.int 1 0), (.int 0 0), (.int 0 0), (.int 3 0), (.ref 154), (.bool true), (.int 181 0), (.ref 155), .none, (.ref 156), (.ref 157), (.ref 158), (.int 431 0), (.int 130 0), (.str (.ofString "/claim/cut.py") 432)])), (List.toArray [])⟩) ::
  (nat_lit 160, ⟨(.type "function"), none, (.func ⟨(.ofString "sidereal_time"), (.ofString "sidereal_time"), defArgs (top 46), .stmts (defBody (top 46)), defScope (top 46), 3, [], .none, .none, .none, (.str (.ofString "starplaces.times") 408), none, (.ref 159), .none, 0⟩), (List.toArray [])⟩) ::
  (nat_lit 166, ⟨(.type "code"), none, (.fields (List.toArray [(.str (.ofString "date_answer") 436), (.str (.ofString "date_answer") 437), (.str (.ofString "/claim/cut.py") 438), (.int 133 0), (.int 1 0), (.int 0 0), (.int 0 0), (.int 3 0), (.ref 161), (.bool true), (.int 181 0), (.ref 162), .none, (.ref 163), (.ref 164), (.ref 165), (.int 440 0), (.int 133 0), (.str (.ofString "/claim/cut.py") 441)])), (List.toArray [])⟩) ::
  (nat_lit 167, ⟨(.type "function"), none, (.func ⟨(.ofString "date_answer"), (.ofString "date_answer"), defArgs (top 48), .stmts (defBody (top 48)), defScope (top 48), 3, [], .none, .none, .none, (.str (.ofString "starplaces.conversions") 434), none, (.ref 166), .none, 0⟩), (List.toArray [])⟩) ::
  (nat_lit 173, ⟨(.type "code"), none, (.fields (List.toArray [(.str (.ofString "moment_answer") 443), (.str (.ofString "moment_answer") 444), (.str (.ofString "/claim/cut.py") 445), (.int 137 0), (.int 4 0), (.int 0 0), (.int 0 0), (.int 3 0), (.ref 168), (.bool true), (.int 181 0), (.ref 169), .none, (.ref 170), (.ref 171), (.ref 172), (.int 450 0), (.int 137 0), (.str (.ofString "/claim/cut.py") 451)])), (List.toArray [])⟩) ::
  (nat_lit 174, ⟨(.type "function"), none, (.func ⟨(.ofString "moment_answer"), (.ofString "moment_answer"), defArgs (top 49), .stmts (defBody (top 49)), defScope (top 49), 3, [], .none, .none, .none, (.str (.ofString "starplaces.conversions") 434), none, (.ref 173), .none, 0⟩), (List.toArray [])⟩) ::
  (nat_lit 180, ⟨(.type "code"), none, (.fields (List.toArray [(.str (.ofString "sidereal_answer") 453), (.str (.ofString "sidereal_answer") 454), (.str (.ofString "/claim/cut.py") 455), (.int 141 0), (.int 1 0), (.int 0 0), (.int 0 0), (.int 3 0), (.ref 175), (.bool true), (.int 181 0), (.ref 176), .none, (.ref 177), (.ref 178), (.ref 179), (.int 457 0), (.int 141 0), (.str (.ofString "/claim/cut.py") 458)])), (List.toArray [])⟩) ::
  (nat_lit 181, ⟨(.type "function"), none, (.func ⟨(.ofString "sidereal_answer"), (.ofString "sidereal_answer"), defArgs (top 50), .stmts (defBody (top 50)), defScope (top 50), 3, [], .none, .none, .none, (.str (.ofString "starplaces.conversions") 434), none, (.ref 180), .none, 0⟩), (List.toArray [])⟩) ::
  (nat_lit 187, ⟨(.type "code"), none, (.fields (List.toArray [(.str (.ofString "sines_answer") 460), (.str (.ofString "sines_answer") 461), (.str (.ofString "/claim/cut.py") 462), (.int 145 0), (.int 1 0), (.int 0 0), (.int 0 0), (.int 3 0), (.ref 182), (.bool true), (.int 181 0), (.ref 183), .none, (.ref 184), (.ref 185), (.ref 186), (.int 464 0), (.int 145 0), (.str (.ofString "/claim/cut.py") 465)])), (List.toArray [])⟩) ::
  (nat_lit 188, ⟨(.type "function"), none, (.func ⟨(.ofString "sines_answer"), (.ofString "sines_answer"), defArgs (top 51), .stmts (defBody (top 51)), defScope (top 51), 3, [], .none, .none, .none, (.str (.ofString "starplaces.conversions") 434), none, (.ref 187), .none, 0⟩), (List.toArray [])⟩) ::
  (nat_lit 194, ⟨(.type "code"), none, (.fields (List.toArray [(.str (.ofString "angles_answer") 467), (.str (.ofString "angles_answer") 468), (.str (.ofString "/claim/cut.py") 469), (.int 147 0), (.int 2 0), (.int 0 0), (.int 0 0), (.int 3 0), (.ref 189), (.bool true), (.int 181 0), (.ref 190), .none, (.ref 191), (.ref 192), (.ref 193), (.int 472 0), (.int 147 0), (.str (.ofString "/claim/cut.py") 473)])), (List.toArray [])⟩) ::
  (nat_lit 195, ⟨(.type "function"), none, (.func ⟨(.ofString "angles_answer"), (.ofString "angles_answer"), defArgs (top 52), .stmts (defBody (top 52)), defScope (top 52), 3, [], .none, .none, .none, (.str (.ofString "starplaces.conversions") 434), none, (.ref 194), .none, 0⟩), (List.toArray [])⟩) ::
  (nat_lit 201, ⟨(.type "code"), none, (.fields (List.toArray [(.str (.ofString "vector_at") 477), (.str (.ofString "vector_at") 478), (.str (.ofString "/claim/cut.py") 479), (.int 152 0), (.int 2 0), (.int 0 0), (.int 0 0), (.int 3 0), (.ref 196), (.bool true), (.int 181 0), (.ref 197), .none, (.ref 198), (.ref 199), (.ref 200), (.int 484 0), (.int 152 0), (.str (.ofString "/claim/cut.py") 485)])), (List.toArray [])⟩) ::
  (nat_lit 202, ⟨(.type "function"), none, (.func ⟨(.ofString "vector_at"), (.ofString "vector_at"), defArgs (top 54), .stmts (defBody (top 54)), defScope (top 54), 3, [], .none, .none, .none, (.str (.ofString "starplaces.vectors") 475), none, (.ref 201), .none, 0⟩), (List.toArray [])⟩) ::
  (nat_lit 208, ⟨(.type "code"), none, (.fields (List.toArray [(.str (.ofString "longitude_and_latitude") 487), (.str (.ofString "longitude_and_latitude") 488), (.str (.ofString "/claim/cut.py") 489), (.int 156 0), (.int 1 0), (.int 0 0), (.int 0 0), (.int 3 0), (.ref 203), (.bool true), (.int 181 0), (.ref 204), .none, (.ref 205), (.ref 206), (.ref 207), (.int 494 0), (.int 156 0), (.str (.ofString "/claim/cut.py") 495)])), (List.toArray [])⟩) ::
  (nat_lit 209, ⟨(.type "function"), none, (.func ⟨(.ofString "longitude_and_latitude"), (.ofString "longitude_and_latitude"), defArgs (top 55), .stmts (defBody (top 55)), defScope (top 55), 3, [], .none, .none, .none, (.str (.ofString "starplaces.vectors") 475), none, (.ref 208), .none, 0⟩), (List.toArray [])⟩) ::
  (nat_lit 215, ⟨(.type "code"), none, (.fields (List.toArray [(.str (.ofString "rotated_x") 497), (.str (.ofString "rotated_x") 498), (.str (.ofString "/claim/cut.py") 499), (.int 159 0), (.int 2 0), (.int 0 0), (.int 0 0), (.int 3 0), (.ref 210), (.bool true), (.int 181 0), (.ref 211), .none, (.ref 212), (.ref 213), (.ref 214), (.int 507 0), (.int 159 0), (.str (.ofString "/claim/cut.py") 508)])), (List.toArray [])⟩) ::
  (nat_lit 216, ⟨(.type "function"), none, (.func ⟨(.ofString "rotated_x"), (.ofString "rotated_x"), defArgs (top 56), .stmts (defBody (top 56)), defScope (top 56), 3, [], .none, .none, .none, (.str (.ofString "starplaces.vectors") 475), none, (.ref 215), .none, 0⟩), (List.toArray [])⟩) ::
  (nat_lit 222, ⟨(.type "code"), none, (.fields (List.toArray [(.str (.ofString "rotated_y") 510), (.str (.ofString "rotated_y") 511), (.str (.ofString "/claim/cut.py") 512), (.int 164 0), (.int 2 0), (.int 0 0), (.int 0 0), (.int 3 0), (.ref 217), (.bool true), (.int 181 0), (.ref 218), .none, (.ref 219), (.ref 220), (.ref 221), (.int 520 0), (.int 164 0), (.str (.ofString "/claim/cut.py") 521)])), (List.toArray [])⟩) ::
  (nat_lit 223, ⟨(.type "function"), none, (.func ⟨(.ofString "rotated_y"), (.ofString "rotated_y"), defArgs (top 57), .stmts (defBody (top 57)), defScope (top 57), 3, [], .none, .none, .none, (.str (.ofString "starplaces.vectors") 475), none, (.ref 222), .none, 0⟩), (List.toArray [])⟩) ::
  (nat_lit 229, ⟨(.type "code"), none, (.fields (List.toArray [(.str (.ofString "rotated_z") 523), (.str (.ofString "rotated_z") 524), (.str (.ofString "/claim/cut.py") 525), (.int 169 0), (.int 2 0), (.int 0 0), (.int 0 0), (.int 3 0), (.ref 224), (.bool true), (.int 181 0), (.ref 225), .none, (.ref 226), (.ref 227), (.ref 228), (.int 533 0), (.int 169 0), (.str (.ofString "/claim/cut.py") 534)])), (List.toArray [])⟩) ::
  (nat_lit 230, ⟨(.type "function"), none, (.func ⟨(.ofString "rotated_z"), (.ofString "rotated_z"), defArgs (top 58), .stmts (defBody (top 58)), defScope (top 58), 3, [], .none, .none, .none, (.str (.ofString "starplaces.vectors") 475), none, (.ref 229), .none, 0⟩), (List.toArray [])⟩) ::
  (nat_lit 236, ⟨(.type "code"), none, (.fields (List.toArray [(.str (.ofString "square_root") 536), (.str (.ofString "square_root") 537), (.str (.ofString "/claim/cut.py") 538), (.int 174 0), (.int 1 0), (.int 0 0), (.int 0 0), (.int 3 0), (.ref 231), (.bool true), (.int 181 0), (.ref 232), .none, (.ref 233), (.ref 234), (.ref 235), (.int 542 0), (.int 174 0), (.str (.ofString "/claim/cut.py") 543)])), (List.toArray [])⟩) ::
  (nat_lit 237, ⟨(.type "function"), none, (.func ⟨(.ofString "square_root"), (.ofString "square_root"), defArgs (top 59), .stmts (defBody (top 59)), defScope (top 59), 3, [], .none, .none, .none, (.str (.ofString "starplaces.vectors") 475), none, (.ref 236), .none, 0⟩), (List.toArray [])⟩) ::
  (nat_lit 241, ⟨(.type "code"), none, (.fields (List.toArray [(.str (.ofString "square_of_distance") 545), (.str (.ofString "square_of_distance") 546), (.str (.ofString "/claim/cut.py") 547), (.int 177 0), (.int 2 0), (.int 0 0), (.int 0 0), (.int 3 0), (.ref 238), (.bool true), (.int 181 0), (.ref 239), .none, .none, .none, (.ref 240), (.int 548 0), (.int 177 0), (.str (.ofString "/claim/cut.py") 549)])), (List.toArray [])⟩) ::
  (nat_lit 242, ⟨(.type "function"), none, (.func ⟨(.ofString "square_of_distance"), (.ofString "square_of_distance"), defArgs (top 60), .stmts (defBody (top 60)), defScope (top 60), 3, [], .none, .none, .none, (.str (.ofString "starplaces.vectors") 475), none, (.ref 241), .none, 0⟩), (List.toArray [])⟩) ::
  (nat_lit 248, ⟨(.type "code"), none, (.fields (List.toArray [(.str (.ofString "separation_at") 551), (.str (.ofString "separation_at") 552), (.str (.ofString "/claim/cut.py") 553), (.int 179 0), (.int 1 0), (.int 0 0), (.int 0 0), (.int 3 0), (.ref 243), (.bool true), (.int 181 0), (.ref 244), .none, (.ref 245), (.ref 246), (.ref 247), (.int 555 0), (.int 179 0), (.str (.ofString "/claim/cut.py") 556)])), (List.toArray [])⟩) ::
  (nat_lit 249, ⟨(.type "function"), none, (.func ⟨(.ofString "separation_at"), (.ofString "separation_at"), defArgs (top 61), .stmts (defBody (top 61)), defScope (top 61), 3, [], .none, .none, .none, (.str (.ofString "starplaces.vectors") 475), none, (.ref 248), .none, 0⟩), (List.toArray [])⟩) ::
  (nat_lit 255, ⟨(.type "code"), none, (.fields (List.toArray [(.str (.ofString "separation_of") 558), (.str (.ofString "separation_of") 559), (.str (.ofString "/claim/cut.py") 560), (.int 181 0), (.int 2 0), (.int 0 0), (.int 0 0), (.int 3 0), (.ref 250), (.bool true), (.int 181 0), (.ref 251), .none, (.ref 252), (.ref 253), (.ref 254), (.int 563 0), (.int 181 0), (.str (.ofString "/claim/cut.py") 564)])), (List.toArray [])⟩) ::
  (nat_lit 256, ⟨(.type "function"), none, (.func ⟨(.ofString "separation_of"), (.ofString "separation_of"), defArgs (top 62), .stmts (defBody (top 62)), defScope (top 62), 3, [], .none, .none, .none, (.str (.ofString "starplaces.vectors") 475), none, (.ref 255), .none, 0⟩), (List.toArray [])⟩) ::
  (nat_lit 262, ⟨(.type "code"), none, (.fields (List.toArray [(.str (.ofString "is_within") 566), (.str (.ofString "is_within") 567), (.str (.ofString "/claim/cut.py") 568), (.int 183 0), (.int 2 0), (.int 0 0), (.int 0 0), (.int 3 0), (.ref 257), (.bool true), (.int 181 0), (.ref 258), .none, (.ref 259), (.ref 260), (.ref 261), (.int 573 0), (.int 183 0), (.str (.ofString "/claim/cut.py") 574)])), (List.toArray [])⟩) ::
  (nat_lit 263, ⟨(.type "function"), none, (.func ⟨(.ofString "is_within"), (.ofString "is_within"), defArgs (top 63), .stmts (defBody (top 63)), defScope (top 63), 3, [], .none, .none, .none, (.str (.ofString "starplaces.vectors") 475), none, (.ref 262), .none, 0⟩), (List.toArray [])⟩) ::
  (nat_lit 276, ⟨(.type "code"), none, (.fields (List.toArray [(.str (.ofString "__init__") 598), (.str (.ofString "Star.__init__") 599), (.str (.ofString "/claim/cut.py") 600), (.int 196 0), (.int 6 0), (.int 0 0), (.int 0 0), (.int 3 0), (.ref 271), (.bool true), (.int 181 0), (.ref 272), .none, (.ref 273), (.ref 274), (.ref 275), (.int 607 0), (.int 196 0), (.str (.ofString "/claim/cut.py") 608)])), (List.toArray [])⟩) ::
  (nat_lit 277, ⟨(.type "function"), none, (.func ⟨(.ofString "__init__"), (.ofString "Star.__init__"), defArgs (inClass (top 69) 0), .stmts (defBody (inClass (top 69) 0)), defScope (inClass (top 69) 0), 3, [], .none, .none, .none, (.str (.ofString "starplaces.positions") 576), none, (.ref 276), .none, 0⟩), (List.toArray [])⟩) ::
  (nat_lit 279, ⟨(.type "dict"), none, (.dict (List.toArray [(PySem.DictEntry.mk (PySem.PyData.keyHash P (.ofString "__module__")) (.str (.ofString "__module__") 593) (.str (.ofString "starplaces.positions") 576)), (PySem.DictEntry.mk (PySem.PyData.keyHash P (.ofString "__firstlineno__")) (.str (.ofString "__firstlineno__") 597) (.int 194 596)), (PySem.DictEntry.mk (PySem.PyData.keyHash P (.ofString "__init__")) (.str (.ofString "__init__") 609) (.ref 277)), (PySem.DictEntry.mk (PySem.PyData.keyHash P (.ofString "__static_attributes__")) (.str (.ofString "__static_attributes__") 616) (.ref 278)), (PySem.DictEntry.mk (PySem.PyData.keyHash P (.ofString "__dict__")) (.str (.ofString "__dict__") 618) (.ref 281)), (PySem.DictEntry.mk (PySem.PyData.keyHash P (.ofString "__weakref__")) (.str (.ofString "__weakref__") 620) (.ref 282)), (PySem.DictEntry.mk (PySem.PyData.keyHash P (.ofString "__doc__")) (.str (.ofString "__doc__") 621) .none)]) 4), (List.toArray [])⟩) ::
  (nat_lit 280, ⟨(.type "type"), none, (.cls (PySem.ClassData.mk (.ofString "Star") [(.type "object")] [(.ref 280), (.type "object")] 279 (.ofString "Star") true [] [] false none false)), (List.toArray [none, none, (some (.str (.ofString "Star") 586)), (some (.str (.ofString "Star") 594)), (some (.builtin "object.__new__")), (some (.bool true))])⟩) ::
  (nat_lit 281, ⟨(.type "getset_descriptor"), none, (.fields (List.toArray [(.str (.ofString "__dict__") 617), (.ref 280), (.builtin "function.__dict__"), (.builtin "function.__dict__#set")])), (List.toArray [])⟩) ::
  (nat_lit 282, ⟨(.type "getset_descriptor"), none, (.fields (List.toArray [(.str (.ofString "__weakref__") 619), (.ref 280), (.builtin "ExceptionGroup.__weakref__"), .none])), (List.toArray [])⟩) ::
  (nat_lit 290, ⟨(.type "code"), none, (.fields (List.toArray [(.str (.ofString "moved_vector") 624), (.str (.ofString "moved_vector") 625), (.str (.ofString "/claim/cut.py") 626), (.int 203 0), (.int 2 0), (.int 0 0), (.int 0 0), (.int 3 0), (.ref 285), (.bool true), (.int 181 0), (.ref 286), .none, (.ref 287), (.ref 288), (.ref 289), (.int 631 0), (.int 203 0), (.str (.ofString "/claim/cut.py") 632)])), (List.toArray [])⟩) ::
  (nat_lit 291, ⟨(.type "function"), none, (.func ⟨(.ofString "moved_vector"), (.ofString "moved_vector"), defArgs (top 70), .stmts (defBody (top 70)), defScope (top 70), 3, [], .none, .none, .none, (.str (.ofString "starplaces.positions") 576), none, (.ref 290), .none, 0⟩), (List.toArray [])⟩) ::
  (nat_lit 297, ⟨(.type "code"), none, (.fields (List.toArray [(.str (.ofString "place_vector") 634), (.str (.ofString "place_vector") 635), (.str (.ofString "/claim/cut.py") 636), (.int 207 0), (.int 2 0), (.int 0 0), (.int 0 0), (.int 3 0), (.ref 292), (.bool true), (.int 181 0), (.ref 293), .none, (.ref 294), (.ref 295), (.ref 296), (.int 642 0), (.int 207 0), (.str (.ofString "/claim/cut.py") 643)])), (List.toArray [])⟩) ::
  (nat_lit 298, ⟨(.type "function"), none, (.func ⟨(.ofString "place_vector"), (.ofString "place_vector"), defArgs (top 71), .stmts (defBody (top 71)), defScope (top 71), 3, [], .none, .none, .none, (.str (.ofString "starplaces.positions") 576), none, (.ref 297), .none, 0⟩), (List.toArray [])⟩) ::
  (nat_lit 304, ⟨(.type "code"), none, (.fields (List.toArray [(.str (.ofString "ecliptic_vector") 645), (.str (.ofString "ecliptic_vector") 646), (.str (.ofString "/claim/cut.py") 647), (.int 212 0), (.int 1 0), (.int 0 0), (.int 0 0), (.int 3 0), (.ref 299), (.bool true), (.int 181 0), (.ref 300), .none, (.ref 301), (.ref 302), (.ref 303), (.int 649 0), (.int 212 0), (.str (.ofString "/claim/cut.py") 650)])), (List.toArray [])⟩) ::
  (nat_lit 305, ⟨(.type "function"), none, (.func ⟨(.ofString "ecliptic_vector"), (.ofString "ecliptic_vector"), defArgs (top 72), .stmts (defBody (top 72)), defScope (top 72), 3, [], .none, .none, .none, (.str (.ofString "starplaces.positions") 576), none, (.ref 304), .none, 0⟩), (List.toArray [])⟩) ::
  (nat_lit 311, ⟨(.type "code"), none, (.fields (List.toArray [(.str (.ofString "horizontal_vector") 652), (.str (.ofString "horizontal_vector") 653), (.str (.ofString "/claim/cut.py") 654), (.int 214 0), (.int 4 0), (.int 0 0), (.int 0 0), (.int 3 0), (.ref 306), (.bool true), (.int 181 0), (.ref 307), .none, (.ref 308), (.ref 309), (.ref 310), (.int 664 0), (.int 214 0), (.str (.ofString "/claim/cut.py") 665)])), (List.toArray [])⟩) ::
  (nat_lit 312, ⟨(.type "function"), none, (.func ⟨(.ofString "horizontal_vector"), (.ofString "horizontal_vector"), defArgs (top 73), .stmts (defBody (top 73)), defScope (top 73), 3, [], .none, .none, .none, (.str (.ofString "starplaces.positions") 576), none, (.ref 311), .none, 0⟩), (List.toArray [])⟩) ::
  (nat_lit 318, ⟨(.type "code"), none, (.fields (List.toArray [(.str (.ofString "found_stars") 669), (.str (.ofString "found_stars") 670), (.str (.ofString "/claim/cut.py") 671), (.int 220 0), (.int 5 0), (.int 0 0), (.int 0 0), (.int 3 0), (.ref 313), (.bool true), (.int 181 0), (.ref 314), .none, (.ref 315), (.ref 316), (.ref 317), (.int 681 0), (.int 220 0), (.str (.ofString "/claim/cut.py") 682)])), (List.toArray [])⟩) ::
  (nat_lit 319, ⟨(.type "function"), none, (.func ⟨(.ofString "found_stars"), (.ofString "found_stars"), defArgs (top 75), .stmts (defBody (top 75)), defScope (top 75), 3, [], .none, .none, .none, (.str (.ofString "starplaces.searches") 667), none, (.ref 318), .none, 0⟩), (List.toArray [])⟩) ::
  (nat_lit 323, ⟨(.type "code"), none, (.fields (List.toArray [(.str (.ofString "squares_from") 684), (.str (.ofString "squares_from") 685), (.str (.ofString "/claim/cut.py") 686), (.int 228 0), (.int 2 0), (.int 0 0), (.int 0 0), (.int 3 0), (.ref 320), (.bool true), (.int 181 0), (.ref 321), .none, .none, .none, (.ref 322), (.int 687 0), (.int 228 0), (.str (.ofString "/claim/cut.py") 688)])), (List.toArray [])⟩) ::
  (nat_lit 324, ⟨(.type "function"), none, (.func ⟨(.ofString "squares_from"), (.ofString "squares_from"), defArgs (top 76), .stmts (defBody (top 76)), defScope (top 76), 3, [], .none, .none, .none, (.str (.ofString "starplaces.searches") 667), none, (.ref 323), .none, 0⟩), (List.toArray [])⟩) ::
  (nat_lit 330, ⟨(.type "code"), none, (.fields (List.toArray [(.str (.ofString "nearest_number") 690), (.str (.ofString "nearest_number") 691), (.str (.ofString "/claim/cut.py") 692), (.int 230 0), (.int 1 0), (.int 0 0), (.int 0 0), (.int 3 0), (.ref 325), (.bool true), (.int 181 0), (.ref 326), .none, (.ref 327), (.ref 328), (.ref 329), (.int 696 0), (.int 230 0), (.str (.ofString "/claim/cut.py") 697)])), (List.toArray [])⟩) ::
  (nat_lit 331, ⟨(.type "function"), none, (.func ⟨(.ofString "nearest_number"), (.ofString "nearest_number"), defArgs (top 77), .stmts (defBody (top 77)), defScope (top 77), 3, [], .none, .none, .none, (.str (.ofString "starplaces.searches") 667), none, (.ref 330), .none, 0⟩), (List.toArray [])⟩) ::
  (nat_lit 335, ⟨(.type "code"), none, (.fields (List.toArray [(.str (.ofString "matches_of") 699), (.str (.ofString "matches_of") 700), (.str (.ofString "/claim/cut.py") 701), (.int 236 0), (.int 4 0), (.int 0 0), (.int 0 0), (.int 3 0), (.ref 332), (.bool true), (.int 181 0), (.ref 333), .none, .none, .none, (.ref 334), (.int 702 0), (.int 236 0), (.str (.ofString "/claim/cut.py") 703)])), (List.toArray [])⟩) ::
  (nat_lit 336, ⟨(.type "function"), none, (.func ⟨(.ofString "matches_of"), (.ofString "matches_of"), defArgs (top 78), .stmts (defBody (top 78)), defScope (top 78), 3, [], .none, .none, .none, (.str (.ofString "starplaces.searches") 667), none, (.ref 335), .none, 0⟩), (List.toArray [])⟩) ::
  (nat_lit 337, ⟨(.type "tuple"), none, (.seq (List.toArray [(.str (.ofString "d") 731), (.str (.ofString "d.d") 732), (.str (.ofString "d.dd") 733), (.str (.ofString "d.ddd") 734), (.str (.ofString "dd") 735), (.str (.ofString "dd.d") 736), (.str (.ofString "dd.dd") 737), (.str (.ofString "dd.ddd") 738)]) 0), (List.toArray [])⟩) ::
  (nat_lit 338, ⟨(.type "tuple"), none, (.seq (List.toArray [(.str (.ofString "d") 740), (.str (.ofString "dd") 741), (.str (.ofString "ddd") 742), (.str (.ofString "dddd") 743), (.str (.ofString "ddddd") 744)]) 0), (List.toArray [])⟩) ::
  (nat_lit 344, ⟨(.type "code"), none, (.fields (List.toArray [(.str (.ofString "is_digit") 746), (.str (.ofString "is_digit") 747), (.str (.ofString "/claim/cut.py") 748), (.int 264 0), (.int 1 0), (.int 0 0), (.int 0 0), (.int 3 0), (.ref 339), (.bool true), (.int 181 0), (.ref 340), .none, (.ref 341), (.ref 342), (.ref 343), (.int 750 0), (.int 264 0), (.str (.ofString "/claim/cut.py") 751)])), (List.toArray [])⟩) ::
  (nat_lit 345, ⟨(.type "function"), none, (.func ⟨(.ofString "is_digit"), (.ofString "is_digit"), defArgs (top 94), .stmts (defBody (top 94)), defScope (top 94), 3, [], .none, .none, .none, (.str (.ofString "starplaces.word_forms") 705), none, (.ref 344), .none, 0⟩), (List.toArray [])⟩) ::
  (nat_lit 351, ⟨(.type "code"), none, (.fields (List.toArray [(.str (.ofString "is_small_letter") 753), (.str (.ofString "is_small_letter") 754), (.str (.ofString "/claim/cut.py") 755), (.int 266 0), (.int 1 0), (.int 0 0), (.int 0 0), (.int 3 0), (.ref 346), (.bool true), (.int 181 0), (.ref 347), .none, (.ref 348), (.ref 349), (.ref 350), (.int 757 0), (.int 266 0), (.str (.ofString "/claim/cut.py") 758)])), (List.toArray [])⟩) ::
  (nat_lit 352, ⟨(.type "function"), none, (.func ⟨(.ofString "is_small_letter"), (.ofString "is_small_letter"), defArgs (top 95), .stmts (defBody (top 95)), defScope (top 95), 3, [], .none, .none, .none, (.str (.ofString "starplaces.word_forms") 705), none, (.ref 351), .none, 0⟩), (List.toArray [])⟩) ::
  (nat_lit 358, ⟨(.type "code"), none, (.fields (List.toArray [(.str (.ofString "fits") 760), (.str (.ofString "fits") 761), (.str (.ofString "/claim/cut.py") 762), (.int 268 0), (.int 2 0), (.int 0 0), (.int 0 0), (.int 3 0), (.ref 353), (.bool true), (.int 181 0), (.ref 354), .none, (.ref 355), (.ref 356), (.ref 357), (.int 767 0), (.int 268 0), (.str (.ofString "/claim/cut.py") 768)])), (List.toArray [])⟩) ::
  (nat_lit 359, ⟨(.type "function"), none, (.func ⟨(.ofString "fits"), (.ofString "fits"), defArgs (top 96), .stmts (defBody (top 96)), defScope (top 96), 3, [], .none, .none, .none, (.str (.ofString "starplaces.word_forms") 705), none, (.ref 358), .none, 0⟩), (List.toArray [])⟩) ::
  (nat_lit 365, ⟨(.type "code"), none, (.fields (List.toArray [(.str (.ofString "number_of") 770), (.str (.ofString "number_of") 771), (.str (.ofString "/claim/cut.py") 772), (.int 278 0), (.int 1 0), (.int 0 0), (.int 0 0), (.int 3 0), (.ref 360), (.bool true), (.int 181 0), (.ref 361), .none, (.ref 362), (.ref 363), (.ref 364), (.int 776 0), (.int 278 0), (.str (.ofString "/claim/cut.py") 777)])), (List.toArray [])⟩) ::
  (nat_lit 366, ⟨(.type "function"), none, (.func ⟨(.ofString "number_of"), (.ofString "number_of"), defArgs (top 97), .stmts (defBody (top 97)), defScope (top 97), 3, [], .none, .none, .none, (.str (.ofString "starplaces.word_forms") 705), none, (.ref 365), .none, 0⟩), (List.toArray [])⟩) ::
  (nat_lit 372, ⟨(.type "code"), none, (.fields (List.toArray [(.str (.ofString "without_minus") 779), (.str (.ofString "without_minus") 780), (.str (.ofString "/claim/cut.py") 781), (.int 283 0), (.int 1 0), (.int 0 0), (.int 0 0), (.int 3 0), (.ref 367), (.bool true), (.int 181 0), (.ref 368), .none, (.ref 369), (.ref 370), (.ref 371), (.int 783 0), (.int 283 0), (.str (.ofString "/claim/cut.py") 784)])), (List.toArray [])⟩) ::
  (nat_lit 373, ⟨(.type "function"), none, (.func ⟨(.ofString "without_minus"), (.ofString "without_minus"), defArgs (top 98), .stmts (defBody (top 98)), defScope (top 98), 3, [], .none, .none, .none, (.str (.ofString "starplaces.word_forms") 705), none, (.ref 372), .none, 0⟩), (List.toArray [])⟩) ::
  (nat_lit 379, ⟨(.type "code"), none, (.fields (List.toArray [(.str (.ofString "with_sign_of") 786), (.str (.ofString "with_sign_of") 787), (.str (.ofString "/claim/cut.py") 788), (.int 287 0), (.int 2 0), (.int 0 0), (.int 0 0), (.int 3 0), (.ref 374), (.bool true), (.int 181 0), (.ref 375), .none, (.ref 376), (.ref 377), (.ref 378), (.int 791 0), (.int 287 0), (.str (.ofString "/claim/cut.py") 792)])), (List.toArray [])⟩) ::
  (nat_lit 380, ⟨(.type "function"), none, (.func ⟨(.ofString "with_sign_of"), (.ofString "with_sign_of"), defArgs (top 99), .stmts (defBody (top 99)), defScope (top 99), 3, [], .none, .none, .none, (.str (.ofString "starplaces.word_forms") 705), none, (.ref 379), .none, 0⟩), (List.toArray [])⟩) ::
  (nat_lit 386, ⟨(.type "code"), none, (.fields (List.toArray [(.str (.ofString "thousandths") 794), (.str (.ofString "thousandths") 795), (.str (.ofString "/claim/cut.py") 796), (.int 291 0), (.int 1 0), (.int 0 0), (.int 0 0), (.int 3 0), (.ref 381), (.bool true), (.int 181 0), (.ref 382), .none, (.ref 383), (.ref 384), (.ref 385), (.int 799 0), (.int 291 0), (.str (.ofString "/claim/cut.py") 800)])), (List.toArray [])⟩) ::
  (nat_lit 387, ⟨(.type "function"), none, (.func ⟨(.ofString "thousandths"), (.ofString "thousandths"), defArgs (top 100), .stmts (defBody (top 100)), defScope (top 100), 3, [], .none, .none, .none, (.str (.ofString "starplaces.word_forms") 705), none, (.ref 386), .none, 0⟩), (List.toArray [])⟩) ::
  (nat_lit 393, ⟨(.type "code"), none, (.fields (List.toArray [(.str (.ofString "is_sixtieths") 802), (.str (.ofString "is_sixtieths") 803), (.str (.ofString "/claim/cut.py") 804), (.int 294 0), (.int 1 0), (.int 0 0), (.int 0 0), (.int 3 0), (.ref 388), (.bool true), (.int 181 0), (.ref 389), .none, (.ref 390), (.ref 391), (.ref 392), (.int 806 0), (.int 294 0), (.str (.ofString "/claim/cut.py") 807)])), (List.toArray [])⟩) ::
  (nat_lit 394, ⟨(.type "function"), none, (.func ⟨(.ofString "is_sixtieths"), (.ofString "is_sixtieths"), defArgs (top 101), .stmts (defBody (top 101)), defScope (top 101), 3, [], .none, .none, .none, (.str (.ofString "starplaces.word_forms") 705), none, (.ref 393), .none, 0⟩), (List.toArray [])⟩) ::
  (nat_lit 398, ⟨(.type "code"), none, (.fields (List.toArray [(.str (.ofString "is_name") 809), (.str (.ofString "is_name") 810), (.str (.ofString "/claim/cut.py") 811), (.int 296 0), (.int 1 0), (.int 0 0), (.int 0 0), (.int 3 0), (.ref 395), (.bool true), (.int 181 0), (.ref 396), .none, .none, .none, (.ref 397), (.int 812 0), (.int 296 0), (.str (.ofString "/claim/cut.py") 813)])), (List.toArray [])⟩) ::
  (nat_lit 399, ⟨(.type "function"), none, (.func ⟨(.ofString "is_name"), (.ofString "is_name"), defArgs (top 102), .stmts (defBody (top 102)), defScope (top 102), 3, [], .none, .none, .none, (.str (.ofString "starplaces.word_forms") 705), none, (.ref 398), .none, 0⟩), (List.toArray [])⟩) ::
  (nat_lit 405, ⟨(.type "code"), none, (.fields (List.toArray [(.str (.ofString "is_right_ascension") 815), (.str (.ofString "is_right_ascension") 816), (.str (.ofString "/claim/cut.py") 817), (.int 300 0), (.int 1 0), (.int 0 0), (.int 0 0), (.int 3 0), (.ref 400), (.bool true), (.int 181 0), (.ref 401), .none, (.ref 402), (.ref 403), (.ref 404), (.int 819 0), (.int 300 0), (.str (.ofString "/claim/cut.py") 820)])), (List.toArray [])⟩) ::
  (nat_lit 406, ⟨(.type "function"), none, (.func ⟨(.ofString "is_right_ascension"), (.ofString "is_right_ascension"), defArgs (top 103), .stmts (defBody (top 103)), defScope (top 103), 3, [], .none, .none, .none, (.str (.ofString "starplaces.word_forms") 705), none, (.ref 405), .none, 0⟩), (List.toArray [])⟩) ::
  (nat_lit 412, ⟨(.type "code"), none, (.fields (List.toArray [(.str (.ofString "right_ascension_of") 822), (.str (.ofString "right_ascension_of") 823), (.str (.ofString "/claim/cut.py") 824), (.int 302 0), (.int 1 0), (.int 0 0), (.int 0 0), (.int 3 0), (.ref 407), (.bool true), (.int 181 0), (.ref 408), .none, (.ref 409), (.ref 410), (.ref 411), (.int 826 0), (.int 302 0), (.str (.ofString "/claim/cut.py") 827)])), (List.toArray [])⟩) ::
  (nat_lit 413, ⟨(.type "function"), none, (.func ⟨(.ofString "right_ascension_of"), (.ofString "right_ascension_of"), defArgs (top 104), .stmts (defBody (top 104)), defScope (top 104), 3, [], .none, .none, .none, (.str (.ofString "starplaces.word_forms") 705), none, (.ref 412), .none, 0⟩), (List.toArray [])⟩) ::
  (nat_lit 419, ⟨(.type "code"), none, (.fields (List.toArray [(.str (.ofString "is_declination") 829), (.str (.ofString "is_declination") 830), (.str (.ofString "/claim/cut.py") 831), (.int 304 0), (.int 1 0), (.int 0 0), (.int 0 0), (.int 3 0), (.ref 414), (.bool true), (.int 181 0), (.ref 415), .none, (.ref 416), (.ref 417), (.ref 418), (.int 833 0), (.int 304 0), (.str (.ofString "/claim/cut.py") 834)])), (List.toArray [])⟩) ::
  (nat_lit 420, ⟨(.type "function"), none, (.func ⟨(.ofString "is_declination"), (.ofString "is_declination"), defArgs (top 105), .stmts (defBody (top 105)), defScope (top 105), 3, [], .none, .none, .none, (.str (.ofString "starplaces.word_forms") 705), none, (.ref 419), .none, 0⟩), (List.toArray [])⟩) ::
  (nat_lit 426, ⟨(.type "code"), none, (.fields (List.toArray [(.str (.ofString "declination_of") 836), (.str (.ofString "declination_of") 837), (.str (.ofString "/claim/cut.py") 838), (.int 308 0), (.int 1 0), (.int 0 0), (.int 0 0), (.int 3 0), (.ref 421), (.bool true), (.int 181 0), (.ref 422), .none, (.ref 423), (.ref 424), (.ref 425), (.int 840 0), (.int 308 0), (.str (.ofString "/claim/cut.py") 841)])), (List.toArray [])⟩) ::
  (nat_lit 427, ⟨(.type "function"), none, (.func ⟨(.ofString "declination_of"), (.ofString "declination_of"), defArgs (top 106), .stmts (defBody (top 106)), defScope (top 106), 3, [], .none, .none, .none, (.str (.ofString "starplaces.word_forms") 705), none, (.ref 426), .none, 0⟩), (List.toArray [])⟩) ::
  (nat_lit 431, ⟨(.type "code"), none, (.fields (List.toArray [(.str (.ofString "is_magnitude") 843), (.str (.ofString "is_magnitude") 844), (.str (.ofString "/claim/cut.py") 845), (.int 310 0), (.int 1 0), (.int 0 0), (.int 0 0), (.int 3 0), (.ref 428), (.bool true), (.int 181 0), (.ref 429), .none, .none, .none, (.ref 430), (.int 846 0), (.int 310 0), (.str (.ofString "/claim/cut.py") 847)])), (List.toArray [])⟩) ::
  (nat_lit 432, ⟨(.type "function"), none, (.func ⟨(.ofString "is_magnitude"), (.ofString "is_magnitude"), defArgs (top 107), .stmts (defBody (top 107)), defScope (top 107), 3, [], .none, .none, .none, (.str (.ofString "starplaces.word_forms") 705), none, (.ref 431), .none, 0⟩), (List.toArray [])⟩) ::
  (nat_lit 438, ⟨(.type "code"), none, (.fields (List.toArray [(.str (.ofString "magnitude_of") 849), (.str (.ofString "magnitude_of") 850), (.str (.ofString "/claim/cut.py") 851), (.int 313 0), (.int 1 0), (.int 0 0), (.int 0 0), (.int 3 0), (.ref 433), (.bool true), (.int 181 0), (.ref 434), .none, (.ref 435), (.ref 436), (.ref 437), (.int 856 0), (.int 313 0), (.str (.ofString "/claim/cut.py") 857)])), (List.toArray [])⟩) ::
  (nat_lit 439, ⟨(.type "function"), none, (.func ⟨(.ofString "magnitude_of"), (.ofString "magnitude_of"), defArgs (top 108), .stmts (defBody (top 108)), defScope (top 108), 3, [], .none, .none, .none, (.str (.ofString "starplaces.word_forms") 705), none, (.ref 438), .none, 0⟩), (List.toArray [])⟩) ::
  (nat_lit 443, ⟨(.type "code"), none, (.fields (List.toArray [(.str (.ofString "is_motion") 859), (.str (.ofString "is_motion") 860), (.str (.ofString "/claim/cut.py") 861), (.int 320 0), (.int 1 0), (.int 0 0), (.int 0 0), (.int 3 0), (.ref 440), (.bool true), (.int 181 0), (.ref 441), .none, .none, .none, (.ref 442), (.int 862 0), (.int 320 0), (.str (.ofString "/claim/cut.py") 863)])), (List.toArray [])⟩) ::
  (nat_lit 444, ⟨(.type "function"), none, (.func ⟨(.ofString "is_motion"), (.ofString "is_motion"), defArgs (top 109), .stmts (defBody (top 109)), defScope (top 109), 3, [], .none, .none, .none, (.str (.ofString "starplaces.word_forms") 705), none, (.ref 443), .none, 0⟩), (List.toArray [])⟩) ::
  (nat_lit 450, ⟨(.type "code"), none, (.fields (List.toArray [(.str (.ofString "motion_of") 865), (.str (.ofString "motion_of") 866), (.str (.ofString "/claim/cut.py") 867), (.int 323 0), (.int 1 0), (.int 0 0), (.int 0 0), (.int 3 0), (.ref 445), (.bool true), (.int 181 0), (.ref 446), .none, (.ref 447), (.ref 448), (.ref 449), (.int 869 0), (.int 323 0), (.str (.ofString "/claim/cut.py") 870)])), (List.toArray [])⟩) ::
  (nat_lit 451, ⟨(.type "function"), none, (.func ⟨(.ofString "motion_of"), (.ofString "motion_of"), defArgs (top 110), .stmts (defBody (top 110)), defScope (top 110), 3, [], .none, .none, .none, (.str (.ofString "starplaces.word_forms") 705), none, (.ref 450), .none, 0⟩), (List.toArray [])⟩) ::
  (nat_lit 455, ⟨(.type "code"), none, (.fields (List.toArray [(.str (.ofString "is_allowed") 882), (.str (.ofString "is_allowed") 883), (.str (.ofString "/claim/cut.py") 884), (.int 330 0), (.int 1 0), (.int 0 0), (.int 0 0), (.int 3 0), (.ref 452), (.bool true), (.int 181 0), (.ref 453), .none, .none, .none, (.ref 454), (.int 885 0), (.int 330 0), (.str (.ofString "/claim/cut.py") 886)])), (List.toArray [])⟩) ::
  (nat_lit 456, ⟨(.type "function"), none, (.func ⟨(.ofString "is_allowed"), (.ofString "is_allowed"), defArgs (top 116), .stmts (defBody (top 116)), defScope (top 116), 3, [], .none, .none, .none, (.str (.ofString "starplaces.texts") 872), none, (.ref 455), .none, 0⟩), (List.toArray [])⟩) ::
  (nat_lit 462, ⟨(.type "code"), none, (.fields (List.toArray [(.str (.ofString "parted") 888), (.str (.ofString "parted") 889), (.str (.ofString "/claim/cut.py") 890), (.int 334 0), (.int 2 0), (.int 0 0), (.int 0 0), (.int 3 0), (.ref 457), (.bool true), (.int 181 0), (.ref 458), .none, (.ref 459), (.ref 460), (.ref 461), (.int 896 0), (.int 334 0), (.str (.ofString "/claim/cut.py") 897)])), (List.toArray [])⟩) ::
  (nat_lit 463, ⟨(.type "function"), none, (.func ⟨(.ofString "parted"), (.ofString "parted"), defArgs (top 117), .stmts (defBody (top 117)), defScope (top 117), 3, [], .none, .none, .none, (.str (.ofString "starplaces.texts") 872), none, (.ref 462), .none, 0⟩), (List.toArray [])⟩) ::
  (nat_lit 467, ⟨(.type "code"), none, (.fields (List.toArray [(.str (.ofString "words_of") 899), (.str (.ofString "words_of") 900), (.str (.ofString "/claim/cut.py") 901), (.int 345 0), (.int 1 0), (.int 0 0), (.int 0 0), (.int 3 0), (.ref 464), (.bool true), (.int 181 0), (.ref 465), .none, .none, .none, (.ref 466), (.int 902 0), (.int 345 0), (.str (.ofString "/claim/cut.py") 903)])), (List.toArray [])⟩) ::
  (nat_lit 468, ⟨(.type "function"), none, (.func ⟨(.ofString "words_of"), (.ofString "words_of"), defArgs (top 118), .stmts (defBody (top 118)), defScope (top 118), 3, [], .none, .none, .none, (.str (.ofString "starplaces.texts") 872), none, (.ref 467), .none, 0⟩), (List.toArray [])⟩) ::
  (nat_lit 474, ⟨(.type "code"), none, (.fields (List.toArray [(.str (.ofString "is_ignored") 905), (.str (.ofString "is_ignored") 906), (.str (.ofString "/claim/cut.py") 907), (.int 347 0), (.int 1 0), (.int 0 0), (.int 0 0), (.int 3 0), (.ref 469), (.bool true), (.int 181 0), (.ref 470), .none, (.ref 471), (.ref 472), (.ref 473), (.int 909 0), (.int 347 0), (.str (.ofString "/claim/cut.py") 910)])), (List.toArray [])⟩) ::
  (nat_lit 475, ⟨(.type "function"), none, (.func ⟨(.ofString "is_ignored"), (.ofString "is_ignored"), defArgs (top 119), .stmts (defBody (top 119)), defScope (top 119), 3, [], .none, .none, .none, (.str (.ofString "starplaces.texts") 872), none, (.ref 474), .none, 0⟩), (List.toArray [])⟩) ::
  (nat_lit 481, ⟨(.type "code"), none, (.fields (List.toArray [(.str (.ofString "index_of_name") 912), (.str (.ofString "index_of_name") 913), (.str (.ofString "/claim/cut.py") 914), (.int 349 0), (.int 2 0), (.int 0 0), (.int 0 0), (.int 3 0), (.ref 476), (.bool true), (.int 181 0), (.ref 477), .none, (.ref 478), (.ref 479), (.ref 480), (.int 919 0), (.int 349 0), (.str (.ofString "/claim/cut.py") 920)])), (List.toArray [])⟩) ::
  (nat_lit 482, ⟨(.type "function"), none, (.func ⟨(.ofString "index_of_name"), (.ofString "index_of_name"), defArgs (top 120), .stmts (defBody (top 120)), defScope (top 120), 3, [], .none, .none, .none, (.str (.ofString "starplaces.texts") 872), none, (.ref 481), .none, 0⟩), (List.toArray [])⟩) ::
  (nat_lit 488, ⟨(.type "code"), none, (.fields (List.toArray [(.str (.ofString "error_kind") 922), (.str (.ofString "error_kind") 923), (.str (.ofString "/claim/cut.py") 924), (.int 354 0), (.int 2 0), (.int 0 0), (.int 0 0), (.int 3 0), (.ref 483), (.bool true), (.int 181 0), (.ref 484), .none, (.ref 485), (.ref 486), (.ref 487), (.int 927 0), (.int 354 0), (.str (.ofString "/claim/cut.py") 928)])), (List.toArray [])⟩) ::
  (nat_lit 489, ⟨(.type "function"), none, (.func ⟨(.ofString "error_kind"), (.ofString "error_kind"), defArgs (top 121), .stmts (defBody (top 121)), defScope (top 121), 3, [], .none, .none, .none, (.str (.ofString "starplaces.texts") 872), none, (.ref 488), .none, 0⟩), (List.toArray [])⟩) ::
  (nat_lit 495, ⟨(.type "code"), none, (.fields (List.toArray [(.str (.ofString "star_of") 930), (.str (.ofString "star_of") 931), (.str (.ofString "/claim/cut.py") 932), (.int 372 0), (.int 1 0), (.int 0 0), (.int 0 0), (.int 3 0), (.ref 490), (.bool true), (.int 181 0), (.ref 491), .none, (.ref 492), (.ref 493), (.ref 494), (.int 935 0), (.int 372 0), (.str (.ofString "/claim/cut.py") 936)])), (List.toArray [])⟩) ::
  (nat_lit 496, ⟨(.type "function"), none, (.func ⟨(.ofString "star_of"), (.ofString "star_of"), defArgs (top 122), .stmts (defBody (top 122)), defScope (top 122), 3, [], .none, .none, .none, (.str (.ofString "starplaces.texts") 872), none, (.ref 495), .none, 0⟩), (List.toArray [])⟩) ::
  (nat_lit 502, ⟨(.type "code"), none, (.fields (List.toArray [(.str (.ofString "read_catalogue") 938), (.str (.ofString "read_catalogue") 939), (.str (.ofString "/claim/cut.py") 940), (.int 375 0), (.int 1 0), (.int 0 0), (.int 0 0), (.int 3 0), (.ref 497), (.bool true), (.int 181 0), (.ref 498), .none, (.ref 499), (.ref 500), (.ref 501), (.int 947 0), (.int 375 0), (.str (.ofString "/claim/cut.py") 948)])), (List.toArray [])⟩) ::
  (nat_lit 503, ⟨(.type "function"), none, (.func ⟨(.ofString "read_catalogue"), (.ofString "read_catalogue"), defArgs (top 123), .stmts (defBody (top 123)), defScope (top 123), 3, [], .none, .none, .none, (.str (.ofString "starplaces.texts") 872), none, (.ref 502), .none, 0⟩), (List.toArray [])⟩) ::
  (nat_lit 509, ⟨(.type "code"), none, (.fields (List.toArray [(.str (.ofString "sign_before") 950), (.str (.ofString "sign_before") 951), (.str (.ofString "/claim/cut.py") 952), (.int 388 0), (.int 1 0), (.int 0 0), (.int 0 0), (.int 3 0), (.ref 504), (.bool true), (.int 181 0), (.ref 505), .none, (.ref 506), (.ref 507), (.ref 508), (.int 954 0), (.int 388 0), (.str (.ofString "/claim/cut.py") 955)])), (List.toArray [])⟩) ::
  (nat_lit 510, ⟨(.type "function"), none, (.func ⟨(.ofString "sign_before"), (.ofString "sign_before"), defArgs (top 124), .stmts (defBody (top 124)), defScope (top 124), 3, [], .none, .none, .none, (.str (.ofString "starplaces.texts") 872), none, (.ref 509), .none, 0⟩), (List.toArray [])⟩) ::
  (nat_lit 516, ⟨(.type "code"), none, (.fields (List.toArray [(.str (.ofString "digits_of") 957), (.str (.ofString "digits_of") 958), (.str (.ofString "/claim/cut.py") 959), (.int 392 0), (.int 2 0), (.int 0 0), (.int 0 0), (.int 3 0), (.ref 511), (.bool true), (.int 181 0), (.ref 512), .none, (.ref 513), (.ref 514), (.ref 515), (.int 962 0), (.int 392 0), (.str (.ofString "/claim/cut.py") 963)])), (List.toArray [])⟩) ::
  (nat_lit 517, ⟨(.type "function"), none, (.func ⟨(.ofString "digits_of"), (.ofString "digits_of"), defArgs (top 125), .stmts (defBody (top 125)), defScope (top 125), 3, [], .none, .none, .none, (.str (.ofString "starplaces.texts") 872), none, (.ref 516), .none, 0⟩), (List.toArray [])⟩) ::
  (nat_lit 523, ⟨(.type "code"), none, (.fields (List.toArray [(.str (.ofString "sixtieths") 965), (.str (.ofString "sixtieths") 966), (.str (.ofString "/claim/cut.py") 967), (.int 394 0), (.int 1 0), (.int 0 0), (.int 0 0), (.int 3 0), (.ref 518), (.bool true), (.int 181 0), (.ref 519), .none, (.ref 520), (.ref 521), (.ref 522), (.int 974 0), (.int 394 0), (.str (.ofString "/claim/cut.py") 975)])), (List.toArray [])⟩) ::
  (nat_lit 524, ⟨(.type "function"), none, (.func ⟨(.ofString "sixtieths"), (.ofString "sixtieths"), defArgs (top 126), .stmts (defBody (top 126)), defScope (top 126), 3, [], .none, .none, .none, (.str (.ofString "starplaces.texts") 872), none, (.ref 523), .none, 0⟩), (List.toArray [])⟩) ::
  (nat_lit 530, ⟨(.type "code"), none, (.fields (List.toArray [(.str (.ofString "declination_text") 977), (.str (.ofString "declination_text") 978), (.str (.ofString "/claim/cut.py") 979), (.int 401 0), (.int 1 0), (.int 0 0), (.int 0 0), (.int 3 0), (.ref 525), (.bool true), (.int 181 0), (.ref 526), .none, (.ref 527), (.ref 528), (.ref 529), (.int 982 0), (.int 401 0), (.str (.ofString "/claim/cut.py") 983)])), (List.toArray [])⟩) ::
  (nat_lit 531, ⟨(.type "function"), none, (.func ⟨(.ofString "declination_text"), (.ofString "declination_text"), defArgs (top 127), .stmts (defBody (top 127)), defScope (top 127), 3, [], .none, .none, .none, (.str (.ofString "starplaces.texts") 872), none, (.ref 530), .none, 0⟩), (List.toArray [])⟩) ::
  (nat_lit 537, ⟨(.type "code"), none, (.fields (List.toArray [(.str (.ofString "magnitude_text") 985), (.str (.ofString "magnitude_text") 986), (.str (.ofString "/claim/cut.py") 987), (.int 404 0), (.int 1 0), (.int 0 0), (.int 0 0), (.int 3 0), (.ref 532), (.bool true), (.int 181 0), (.ref 533), .none, (.ref 534), (.ref 535), (.ref 536), (.int 990 0), (.int 404 0), (.str (.ofString "/claim/cut.py") 991)])), (List.toArray [])⟩) ::
  (nat_lit 538, ⟨(.type "function"), none, (.func ⟨(.ofString "magnitude_text"), (.ofString "magnitude_text"), defArgs (top 128), .stmts (defBody (top 128)), defScope (top 128), 3, [], .none, .none, .none, (.str (.ofString "starplaces.texts") 872), none, (.ref 537), .none, 0⟩), (List.toArray [])⟩) ::
  (nat_lit 542, ⟨(.type "code"), none, (.fields (List.toArray [(.str (.ofString "star_line") 993), (.str (.ofString "star_line") 994), (.str (.ofString "/claim/cut.py") 995), (.int 407 0), (.int 1 0), (.int 0 0), (.int 0 0), (.int 3 0), (.ref 539), (.bool true), (.int 181 0), (.ref 540), .none, .none, .none, (.ref 541), (.int 996 0), (.int 407 0), (.str (.ofString "/claim/cut.py") 997)])), (List.toArray [])⟩) ::
  (nat_lit 543, ⟨(.type "function"), none, (.func ⟨(.ofString "star_line"), (.ofString "star_line"), defArgs (top 129), .stmts (defBody (top 129)), defScope (top 129), 3, [], .none, .none, .none, (.str (.ofString "starplaces.texts") 872), none, (.ref 542), .none, 0⟩), (List.toArray [])⟩) ::
  (nat_lit 549, ⟨(.type "code"), none, (.fields (List.toArray [(.str (.ofString "written_catalogue") 999), (.str (.ofString "written_catalogue") 1000), (.str (.ofString "/claim/cut.py") 1001), (.int 411 0), (.int 1 0), (.int 0 0), (.int 0 0), (.int 3 0), (.ref 544), (.bool true), (.int 181 0), (.ref 545), .none, (.ref 546), (.ref 547), (.ref 548), (.int 1005 0), (.int 411 0), (.str (.ofString "/claim/cut.py") 1006)])), (List.toArray [])⟩) ::
  (nat_lit 550, ⟨(.type "function"), none, (.func ⟨(.ofString "written_catalogue"), (.ofString "written_catalogue"), defArgs (top 130), .stmts (defBody (top 130)), defScope (top 130), 3, [], .none, .none, .none, (.str (.ofString "starplaces.texts") 872), none, (.ref 549), .none, 0⟩), (List.toArray [])⟩) ::
  (nat_lit 556, ⟨(.type "code"), none, (.fields (List.toArray [(.str (.ofString "is_observation") 1010), (.str (.ofString "is_observation") 1011), (.str (.ofString "/claim/cut.py") 1012), (.int 417 0), (.int 3 0), (.int 0 0), (.int 0 0), (.int 3 0), (.ref 551), (.bool true), (.int 181 0), (.ref 552), .none, (.ref 553), (.ref 554), (.ref 555), (.int 1016 0), (.int 417 0), (.str (.ofString "/claim/cut.py") 1017)])), (List.toArray [])⟩) ::
  (nat_lit 557, ⟨(.type "function"), none, (.func ⟨(.ofString "is_observation"), (.ofString "is_observation"), defArgs (top 132), .stmts (defBody (top 132)), defScope (top 132), 3, [], .none, .none, .none, (.str (.ofString "starplaces.session") 1008), none, (.ref 556), .none, 0⟩), (List.toArray [])⟩) ::
  (nat_lit 563, ⟨(.type "code"), none, (.fields (List.toArray [(.str (.ofString "is_search") 1019), (.str (.ofString "is_search") 1020), (.str (.ofString "/claim/cut.py") 1021), (.int 421 0), (.int 3 0), (.int 0 0), (.int 0 0), (.int 3 0), (.ref 558), (.bool true), (.int 181 0), (.ref 559), .none, (.ref 560), (.ref 561), (.ref 562), (.int 1025 0), (.int 421 0), (.str (.ofString "/claim/cut.py") 1026)])), (List.toArray [])⟩) ::
  (nat_lit 564, ⟨(.type "function"), none, (.func ⟨(.ofString "is_search"), (.ofString "is_search"), defArgs (top 133), .stmts (defBody (top 133)), defScope (top 133), 3, [], .none, .none, .none, (.str (.ofString "starplaces.session") 1008), none, (.ref 563), .none, 0⟩), (List.toArray [])⟩) ::
  (nat_lit 577, ⟨(.type "code"), none, (.fields (List.toArray [(.str (.ofString "__init__") 1040), (.str (.ofString "Session.__init__") 1041), (.str (.ofString "/claim/cut.py") 1042), (.int 427 0), (.int 1 0), (.int 0 0), (.int 0 0), (.int 3 0), (.ref 572), (.bool true), (.int 181 0), (.ref 573), .none, (.ref 574), (.ref 575), (.ref 576), (.int 1044 0), (.int 427 0), (.str (.ofString "/claim/cut.py") 1045)])), (List.toArray [])⟩) ::
  (nat_lit 578, ⟨(.type "function"), none, (.func ⟨(.ofString "__init__"), (.ofString "Session.__init__"), defArgs (inClass (top 134) 0), .stmts (defBody (inClass (top 134) 0)), defScope (inClass (top 134) 0), 3, [], .none, .none, .none, (.str (.ofString "starplaces.session") 1008), none, (.ref 577), .none, 0⟩), (List.toArray [])⟩) ::
  (nat_lit 584, ⟨(.type "code"), none, (.fields (List.toArray [(.str (.ofString "load") 1047), (.str (.ofString "Session.load") 1048), (.str (.ofString "/claim/cut.py") 1049), (.int 430 0), (.int 2 0), (.int 0 0), (.int 0 0), (.int 3 0), (.ref 579), (.bool true), (.int 181 0), (.ref 580), .none, (.ref 581), (.ref 582), (.ref 583), (.int 1054 0), (.int 430 0), (.str (.ofString "/claim/cut.py") 1055)])), (List.toArray [])⟩) ::
  (nat_lit 585, ⟨(.type "function"), none, (.func ⟨(.ofString "load"), (.ofString "Session.load"), defArgs (inClass (top 134) 1), .stmts (defBody (inClass (top 134) 1)), defScope (inClass (top 134) 1), 3, [], .none, .none, .none, (.str (.ofString "starplaces.session") 1008), none, (.ref 584), .none, 0⟩), (List.toArray [])⟩) ::
  (nat_lit 591, ⟨(.type "code"), none, (.fields (List.toArray [(.str (.ofString "describe") 1057), (.str (.ofString "Session.describe") 1058), (.str (.ofString "/claim/cut.py") 1059), (.int 437 0), (.int 2 0), (.int 0 0), (.int 0 0), (.int 3 0), (.ref 586), (.bool true), (.int 181 0), (.ref 587), .none, (.ref 588), (.ref 589), (.ref 590), (.int 1064 0), (.int 437 0), (.str (.ofString "/claim/cut.py") 1065)])), (List.toArray [])⟩) ::
  (nat_lit 592, ⟨(.type "function"), none, (.func ⟨(.ofString "describe"), (.ofString "Session.describe"), defArgs (inClass (top 134) 2), .stmts (defBody (inClass (top 134) 2)), defScope (inClass (top 134) 2), 3, [], .none, .none, .none, (.str (.ofString "starplaces.session") 1008), none, (.ref 591), .none, 0⟩), (List.toArray [])⟩) ::
  (nat_lit 598, ⟨(.type "code"), none, (.fields (List.toArray [(.str (.ofString "search_name") 1067), (.str (.ofString "Session.search_name") 1068), (.str (.ofString "/claim/cut.py") 1069), (.int 444 0), (.int 2 0), (.int 0 0), (.int 0 0), (.int 3 0), (.ref 593), (.bool true), (.int 181 0), (.ref 594), .none, (.ref 595), (.ref 596), (.ref 597), (.int 1073 0), (.int 444 0), (.str (.ofString "/claim/cut.py") 1074)])), (List.toArray [])⟩) ::
  (nat_lit 599, ⟨(.type "function"), none, (.func ⟨(.ofString "search_name"), (.ofString "Session.search_name"), defArgs (inClass (top 134) 3), .stmts (defBody (inClass (top 134) 3)), defScope (inClass (top 134) 3), 3, [], .none, .none, .none, (.str (.ofString "starplaces.session") 1008), none, (.ref 598), .none, 0⟩), (List.toArray [])⟩) ::
  (nat_lit 605, ⟨(.type "code"), none, (.fields (List.toArray [(.str (.ofString "export") 1076), (.str (.ofString "Session.export") 1077), (.str (.ofString "/claim/cut.py") 1078), (.int 450 0), (.int 1 0), (.int 0 0), (.int 0 0), (.int 3 0), (.ref 600), (.bool true), (.int 181 0), (.ref 601), .none, (.ref 602), (.ref 603), (.ref 604), (.int 1081 0), (.int 450 0), (.str (.ofString "/claim/cut.py") 1082)])), (List.toArray [])⟩) ::
  (nat_lit 606, ⟨(.type "function"), none, (.func ⟨(.ofString "export"), (.ofString "Session.export"), defArgs (inClass (top 134) 4), .stmts (defBody (inClass (top 134) 4)), defScope (inClass (top 134) 4), 3, [], .none, .none, .none, (.str (.ofString "starplaces.session") 1008), none, (.ref 605), .none, 0⟩), (List.toArray [])⟩) ::
  (nat_lit 612, ⟨(.type "code"), none, (.fields (List.toArray [(.str (.ofString "place") 1084), (.str (.ofString "Session.place") 1085), (.str (.ofString "/claim/cut.py") 1086), (.int 454 0), (.int 3 0), (.int 0 0), (.int 0 0), (.int 3 0), (.ref 607), (.bool true), (.int 181 0), (.ref 608), .none, (.ref 609), (.ref 610), (.ref 611), (.int 1090 0), (.int 454 0), (.str (.ofString "/claim/cut.py") 1091)])), (List.toArray [])⟩) ::
  (nat_lit 613, ⟨(.type "function"), none, (.func ⟨(.ofString "place"), (.ofString "Session.place"), defArgs (inClass (top 134) 5), .stmts (defBody (inClass (top 134) 5)), defScope (inClass (top 134) 5), 3, [], .none, .none, .none, (.str (.ofString "starplaces.session") 1008), none, (.ref 612), .none, 0⟩), (List.toArray [])⟩) ::
  (nat_lit 619, ⟨(.type "code"), none, (.fields (List.toArray [(.str (.ofString "horizon") 1093), (.str (.ofString "Session.horizon") 1094), (.str (.ofString "/claim/cut.py") 1095), (.int 461 0), (.int 5 0), (.int 0 0), (.int 0 0), (.int 3 0), (.ref 614), (.bool true), (.int 181 0), (.ref 615), .none, (.ref 616), (.ref 617), (.ref 618), (.int 1102 0), (.int 461 0), (.str (.ofString "/claim/cut.py") 1103)])), (List.toArray [])⟩) ::
  (nat_lit 620, ⟨(.type "function"), none, (.func ⟨(.ofString "horizon"), (.ofString "Session.horizon"), defArgs (inClass (top 134) 6), .stmts (defBody (inClass (top 134) 6)), defScope (inClass (top 134) 6), 3, [], .none, .none, .none, (.str (.ofString "starplaces.session") 1008), none, (.ref 619), .none, 0⟩), (List.toArray [])⟩) ::
  (nat_lit 626, ⟨(.type "code"), none, (.fields (List.toArray [(.str (.ofString "ecliptic") 1105), (.str (.ofString "Session.ecliptic") 1106), (.str (.ofString "/claim/cut.py") 1107), (.int 469 0), (.int 3 0), (.int 0 0), (.int 0 0), (.int 3 0), (.ref 621), (.bool true), (.int 181 0), (.ref 622), .none, (.ref 623), (.ref 624), (.ref 625), (.int 1111 0), (.int 469 0), (.str (.ofString "/claim/cut.py") 1112)])), (List.toArray [])⟩) ::
  (nat_lit 627, ⟨(.type "function"), none, (.func ⟨(.ofString "ecliptic"), (.ofString "Session.ecliptic"), defArgs (inClass (top 134) 7), .stmts (defBody (inClass (top 134) 7)), defScope (inClass (top 134) 7), 3, [], .none, .none, .none, (.str (.ofString "starplaces.session") 1008), none, (.ref 626), .none, 0⟩), (List.toArray [])⟩) ::
  (nat_lit 633, ⟨(.type "code"), none, (.fields (List.toArray [(.str (.ofString "separation") 1114), (.str (.ofString "Session.separation") 1115), (.str (.ofString "/claim/cut.py") 1116), (.int 476 0), (.int 4 0), (.int 0 0), (.int 0 0), (.int 3 0), (.ref 628), (.bool true), (.int 181 0), (.ref 629), .none, (.ref 630), (.ref 631), (.ref 632), (.int 1123 0), (.int 476 0), (.str (.ofString "/claim/cut.py") 1124)])), (List.toArray [])⟩) ::
  (nat_lit 634, ⟨(.type "function"), none, (.func ⟨(.ofString "separation"), (.ofString "Session.separation"), defArgs (inClass (top 134) 8), .stmts (defBody (inClass (top 134) 8)), defScope (inClass (top 134) 8), 3, [], .none, .none, .none, (.str (.ofString "starplaces.session") 1008), none, (.ref 633), .none, 0⟩), (List.toArray [])⟩) ::
  (nat_lit 640, ⟨(.type "code"), none, (.fields (List.toArray [(.str (.ofString "cone") 1126), (.str (.ofString "Session.cone") 1127), (.str (.ofString "/claim/cut.py") 1128), (.int 485 0), (.int 6 0), (.int 0 0), (.int 0 0), (.int 3 0), (.ref 635), (.bool true), (.int 181 0), (.ref 636), .none, (.ref 637), (.ref 638), (.ref 639), (.int 1139 0), (.int 485 0), (.str (.ofString "/claim/cut.py") 1140)])), (List.toArray [])⟩) ::
  (nat_lit 641, ⟨(.type "function"), none, (.func ⟨(.ofString "cone"), (.ofString "Session.cone"), defArgs (inClass (top 134) 9), .stmts (defBody (inClass (top 134) 9)), defScope (inClass (top 134) 9), 3, [], .none, .none, .none, (.str (.ofString "starplaces.session") 1008), none, (.ref 640), .none, 0⟩), (List.toArray [])⟩) ::
  (nat_lit 647, ⟨(.type "code"), none, (.fields (List.toArray [(.str (.ofString "match_with") 1142), (.str (.ofString "Session.match_with") 1143), (.str (.ofString "/claim/cut.py") 1144), (.int 494 0), (.int 4 0), (.int 0 0), (.int 0 0), (.int 3 0), (.ref 642), (.bool true), (.int 181 0), (.ref 643), .none, (.ref 644), (.ref 645), (.ref 646), (.int 1154 0), (.int 494 0), (.str (.ofString "/claim/cut.py") 1155)])), (List.toArray [])⟩) ::
  (nat_lit 648, ⟨(.type "function"), none, (.func ⟨(.ofString "match_with"), (.ofString "Session.match_with"), defArgs (inClass (top 134) 10), .stmts (defBody (inClass (top 134) 10)), defScope (inClass (top 134) 10), 3, [], .none, .none, .none, (.str (.ofString "starplaces.session") 1008), none, (.ref 647), .none, 0⟩), (List.toArray [])⟩) ::
  (nat_lit 650, ⟨(.type "dict"), none, (.dict (List.toArray [(PySem.DictEntry.mk (PySem.PyData.keyHash P (.ofString "__module__")) (.str (.ofString "__module__") 1035) (.str (.ofString "starplaces.session") 1008)), (PySem.DictEntry.mk (PySem.PyData.keyHash P (.ofString "__firstlineno__")) (.str (.ofString "__firstlineno__") 1039) (.int 425 1038)), (PySem.DictEntry.mk (PySem.PyData.keyHash P (.ofString "__init__")) (.str (.ofString "__init__") 1046) (.ref 578)), (PySem.DictEntry.mk (PySem.PyData.keyHash P (.ofString "load")) (.str (.ofString "load") 1056) (.ref 585)), (PySem.DictEntry.mk (PySem.PyData.keyHash P (.ofString "describe")) (.str (.ofString "describe") 1066) (.ref 592)), (PySem.DictEntry.mk (PySem.PyData.keyHash P (.ofString "search_name")) (.str (.ofString "search_name") 1075) (.ref 599)), (PySem.DictEntry.mk (PySem.PyData.keyHash P (.ofString "export")) (.str (.ofString "export") 1083) (.ref 606)), (PySem.DictEntry.mk (PySem.PyData.keyHash P (.ofString "place")) (.str (.ofString "place") 1092) (.ref 613)), (PySem.DictEntry.mk (PySem.PyData.keyHash P (.ofString "horizon")) (.str (.ofString "horizon") 1104) (.ref 620)), (PySem.DictEntry.mk (PySem.PyData.keyHash P (.ofString "ecliptic")) (.str (.ofString "ecliptic") 1113) (.ref 627)), (PySem.DictEntry.mk (PySem.PyData.keyHash P (.ofString "separation")) (.str (.ofString "separation") 1125) (.ref 634)), (PySem.DictEntry.mk (PySem.PyData.keyHash P (.ofString "cone")) (.str (.ofString "cone") 1141) (.ref 641)), (PySem.DictEntry.mk (PySem.PyData.keyHash P (.ofString "match_with")) (.str (.ofString "match_with") 1156) (.ref 648)), (PySem.DictEntry.mk (PySem.PyData.keyHash P (.ofString "__static_attributes__")) (.str (.ofString "__static_attributes__") 1158) (.ref 649)), (PySem.DictEntry.mk (PySem.PyData.keyHash P (.ofString "__dict__")) (.str (.ofString "__dict__") 1160) (.ref 652)), (PySem.DictEntry.mk (PySem.PyData.keyHash P (.ofString "__weakref__")) (.str (.ofString "__weakref__") 1162) (.ref 653)), (PySem.DictEntry.mk (PySem.PyData.keyHash P (.ofString "__doc__")) (.str (.ofString "__doc__") 1163) .none)]) 4), (List.toArray [])⟩) ::
  (nat_lit 651, ⟨(.type "type"), none, (.cls (PySem.ClassData.mk (.ofString "Session") [(.type "object")] [(.ref 651), (.type "object")] 650 (.ofString "Session") true [] [] false none false)), (List.toArray [none, none, (some (.str (.ofString "Session") 1028)), (some (.str (.ofString "Session") 1036)), (some (.builtin "object.__new__")), (some (.bool true))])⟩) ::
  (nat_lit 652, ⟨(.type "getset_descriptor"), none, (.fields (List.toArray [(.str (.ofString "__dict__") 1159), (.ref 651), (.builtin "function.__dict__"), (.builtin "function.__dict__#set")])), (List.toArray [])⟩) ::
  (nat_lit 653, ⟨(.type "getset_descriptor"), none, (.fields (List.toArray [(.str (.ofString "__weakref__") 1161), (.ref 651), (.builtin "ExceptionGroup.__weakref__"), .none])), (List.toArray [])⟩) ::
  (nat_lit 656, ⟨(.type "tuple"), none, (.seq (List.toArray [(.int 0 1196), (.int 1 1197), (.int 0 1198), (.int 0 1199), (.int 2 1200), (.int 4 1201), (.int 2 1202), (.int 3 1203), (.int 5 1204), (.int 2 1205), (.int 1 1206), (.int 4 1207), (.int 1 1208), (.int 1 1209), (.int 2 1210)]) 0), (List.toArray [])⟩) ::
  (nat_lit 662, ⟨(.type "code"), none, (.fields (List.toArray [(.str (.ofString "has_row") 1212), (.str (.ofString "has_row") 1213), (.str (.ofString "/claim/cut.py") 1214), (.int 521 0), (.int 1 0), (.int 0 0), (.int 0 0), (.int 3 0), (.ref 657), (.bool true), (.int 181 0), (.ref 658), .none, (.ref 659), (.ref 660), (.ref 661), (.int 1216 0), (.int 521 0), (.str (.ofString "/claim/cut.py") 1217)])), (List.toArray [])⟩) ::
  (nat_lit 663, ⟨(.type "function"), none, (.func ⟨(.ofString "has_row"), (.ofString "has_row"), defArgs (top 151), .stmts (defBody (top 151)), defScope (top 151), 3, [], .none, .none, .none, (.str (.ofString "starplaces.atlas") 1166), none, (.ref 662), .none, 0⟩), (List.toArray [])⟩) ::
  (nat_lit 669, ⟨(.type "code"), none, (.fields (List.toArray [(.str (.ofString "split_calls") 1219), (.str (.ofString "split_calls") 1220), (.str (.ofString "/claim/cut.py") 1221), (.int 523 0), (.int 1 0), (.int 0 0), (.int 0 0), (.int 3 0), (.ref 664), (.bool true), (.int 181 0), (.ref 665), .none, (.ref 666), (.ref 667), (.ref 668), (.int 1230 0), (.int 523 0), (.str (.ofString "/claim/cut.py") 1231)])), (List.toArray [])⟩) ::
  (nat_lit 670, ⟨(.type "function"), none, (.func ⟨(.ofString "split_calls"), (.ofString "split_calls"), defArgs (top 152), .stmts (defBody (top 152)), defScope (top 152), 3, [], .none, .none, .none, (.str (.ofString "starplaces.atlas") 1166), none, (.ref 669), .none, 0⟩), (List.toArray [])⟩) ::
  (nat_lit 676, ⟨(.type "code"), none, (.fields (List.toArray [(.str (.ofString "conversion_answer") 1233), (.str (.ofString "conversion_answer") 1234), (.str (.ofString "/claim/cut.py") 1235), (.int 538 0), (.int 2 0), (.int 0 0), (.int 0 0), (.int 3 0), (.ref 671), (.bool true), (.int 181 0), (.ref 672), .none, (.ref 673), (.ref 674), (.ref 675), (.int 1238 0), (.int 538 0), (.str (.ofString "/claim/cut.py") 1239)])), (List.toArray [])⟩) ::
  (nat_lit 677, ⟨(.type "function"), none, (.func ⟨(.ofString "conversion_answer"), (.ofString "conversion_answer"), defArgs (top 153), .stmts (defBody (top 153)), defScope (top 153), 3, [], .none, .none, .none, (.str (.ofString "starplaces.atlas") 1166), none, (.ref 676), .none, 0⟩), (List.toArray [])⟩) ::
  (nat_lit 683, ⟨(.type "code"), none, (.fields (List.toArray [(.str (.ofString "answer_to") 1241), (.str (.ofString "answer_to") 1242), (.str (.ofString "/claim/cut.py") 1243), (.int 548 0), (.int 4 0), (.int 0 0), (.int 0 0), (.int 3 0), (.ref 678), (.bool true), (.int 181 0), (.ref 679), .none, (.ref 680), (.ref 681), (.ref 682), (.int 1248 0), (.int 548 0), (.str (.ofString "/claim/cut.py") 1249)])), (List.toArray [])⟩) ::
  (nat_lit 684, ⟨(.type "function"), none, (.func ⟨(.ofString "answer_to"), (.ofString "answer_to"), defArgs (top 154), .stmts (defBody (top 154)), defScope (top 154), 3, [], .none, .none, .none, (.str (.ofString "starplaces.atlas") 1166), none, (.ref 683), .none, 0⟩), (List.toArray [])⟩) ::
  (nat_lit 690, ⟨(.type "code"), none, (.fields (List.toArray [(.str (.ofString "answers") 1251), (.str (.ofString "answers") 1252), (.str (.ofString "/claim/cut.py") 1253), (.int 570 0), (.int 1 0), (.int 0 0), (.int 0 0), (.int 3 0), (.ref 685), (.bool true), (.int 181 0), (.ref 686), .none, (.ref 687), (.ref 688), (.ref 689), (.int 1261 0), (.int 570 0), (.str (.ofString "/claim/cut.py") 1262)])), (List.toArray [])⟩) ::
  (nat_lit 691, ⟨(.type "function"), none, (.func ⟨(.ofString "answers"), (.ofString "answers"), defArgs (top 155), .stmts (defBody (top 155)), defScope (top 155), 3, [], .none, .none, .none, (.str (.ofString "starplaces.atlas") 1166), none, (.ref 690), .none, 0⟩), (List.toArray [])⟩) ::
  []
def asK : List Addr := [2, 3, 20, 21, 27, 28, 34, 35, 41, 42, 48, 49, 55, 56, 62, 63, 69, 70, 76, 77, 83, 84, 90, 91, 92, 98, 99, 105, 106, 112, 113, 117, 118, 124, 125, 131, 132, 138, 139, 145, 146, 152, 153, 159, 160, 166, 167, 173, 174, 180, 181, 187, 188, 194, 195, 201, 202, 208, 209, 215, 216, 222, 223, 229, 230, 236, 237, 241, 242, 248, 249, 255, 256, 262, 263, 276, 277, 279, 280, 281, 282, 290, 291, 297, 298, 304, 305, 311, 312, 318, 319, 323, 324, 330, 331, 335, 336, 337, 338, 344, 345, 351, 352, 358, 359, 365, 366, 372, 373, 379, 380, 386, 387, 393, 394, 398, 399, 405, 406, 412, 413, 419, 420, 426, 427, 431, 432, 438, 439, 443, 444, 450, 451, 455, 456, 462, 463, 467, 468, 474, 475, 481, 482, 488, 489, 495, 496, 502, 503, 509, 510, 516, 517, 523, 524, 530, 531, 537, 538, 542, 543, 549, 550, 556, 557, 563, 564, 577, 578, 584, 585, 591, 592, 598, 599, 605, 606, 612, 613, 619, 620, 626, 627, 633, 634, 640, 641, 647, 648, 650, 651, 652, 653, 656, 662, 663, 669, 670, 676, 677, 683, 684, 690, 691]
theorem asK_eq : ∀ P, asK = (KF P).map (·.1) := fun _ => by kernel_rfl
abbrev prg : Program := PySem.Challenge.rw_starplaces_s01_answers.prog
def qv : Program := PySem.W.view PySem.Challenge.pw_starplaces_s01_answers [15, 16, 59, 155]
def nm0 : List Str := [.ofString "ONE", .ofString "SCALED_PI", .ofString "TURN", .ofString "HALF_TURN", .ofString "QUARTER", .ofString "TERM_COUNT", .ofString "alternating_sum", .ofString "sine_series", .ofString "cosine_series", .ofString "quarter_sine", .ofString "quarter_cosine", .ofString "sine", .ofString "cosine", .ofString "halve", .ofString "direction", .ofString "DAY", .ofString "NOON", .ofString "START_YEAR", .ofString "FIRST_YEAR", .ofString "LAST_YEAR", .ofString "DAYS_IN_400_YEARS", .ofString "FEBRUARY", .ofString "MONTH_LENGTHS", .ofString "is_leap_year", .ofString "month_length", .ofString "days_before_year", .ofString "days_before_month", .ofString "year_of", .ofString "date_of", .ofString "is_date", .ofString "moment_of", .ofString "TEXT_NOT_ALLOWED", .ofString "OUT_OF_RANGE", .ofString "NO_SUCH_STAR", .ofString "TEXT_ERROR", .ofString "YEAR"]
def nm1 : List Str := [.ofString "LAST_MOMENT", .ofString "SIDEREAL_START", .ofString "SIDEREAL_GAIN", .ofString "SIDEREAL_SPAN", .ofString "is_moment", .ofString "sidereal_time", .ofString "date_answer", .ofString "moment_answer", .ofString "sidereal_answer", .ofString "sines_answer", .ofString "angles_answer", .ofString "vector_at", .ofString "longitude_and_latitude", .ofString "rotated_x", .ofString "rotated_y", .ofString "rotated_z", .ofString "square_of_distance", .ofString "separation_at", .ofString "separation_of", .ofString "is_within", .ofString "CENTURY", .ofString "PRECESSION_P", .ofString "PRECESSION_N", .ofString "OBLIQUITY", .ofString "Star", .ofString "moved_vector", .ofString "place_vector", .ofString "ecliptic_vector", .ofString "horizontal_vector", .ofString "found_stars", .ofString "squares_from", .ofString "nearest_number", .ofString "matches_of", .ofString "LINE_FEED", .ofString "SPACE", .ofString "MINUS"]
def nm2 : List Str := [.ofString "POINT", .ofString "ZERO", .ofString "NINE", .ofString "SMALL_A", .ofString "SMALL_Z", .ofString "LONGEST_NAME", .ofString "SECOND_OF_TIME", .ofString "RIGHT_ANGLE", .ofString "ANGLE_FORM", .ofString "MAGNITUDE_FORMS", .ofString "MOTION_FORMS", .ofString "is_digit", .ofString "is_small_letter", .ofString "fits", .ofString "number_of", .ofString "without_minus", .ofString "with_sign_of", .ofString "thousandths", .ofString "is_sixtieths", .ofString "is_name", .ofString "is_right_ascension", .ofString "right_ascension_of", .ofString "is_declination", .ofString "declination_of", .ofString "is_magnitude", .ofString "magnitude_of", .ofString "is_motion", .ofString "motion_of", .ofString "LONGEST_TEXT", .ofString "LAST_BYTE", .ofString "MOST_STARS", .ofString "NUMBER_SIGN", .ofString "is_allowed", .ofString "parted", .ofString "words_of", .ofString "is_ignored"]
def nm3 : List Str := [.ofString "index_of_name", .ofString "error_kind", .ofString "star_of", .ofString "read_catalogue", .ofString "sign_before", .ofString "digits_of", .ofString "sixtieths", .ofString "declination_text", .ofString "magnitude_text", .ofString "star_line", .ofString "written_catalogue", .ofString "is_observation", .ofString "is_search", .ofString "Session", .ofString "LOAD", .ofString "STAR", .ofString "FIND", .ofString "EXPORT", .ofString "PLACE", .ofString "HORIZON", .ofString "ECLIPTIC", .ofString "SEPARATION", .ofString "CONE", .ofString "MATCH", .ofString "DATE", .ofString "MOMENT", .ofString "SIDEREAL", .ofString "SINES", .ofString "NUMBER_COUNTS", .ofString "has_row", .ofString "split_calls", .ofString "conversion_answer", .ofString "answer_to"]
def nms : List Str := nm0 ++ nm1 ++ nm2 ++ nm3
theorem said0 : PySem.Challenge.rw_starplaces_s01_answers.wellSaid = true := by
  unfold PySem.W.OpenSpec.wellSaid PySem.W.looksOpen
  simp only [Bool.and_eq_true]
  and_intros <;> decide +kernel
theorem bare0 : PySem.Challenge.rw_starplaces_s01_answers.prog.bare := ⟨rfl, rfl, rfl, rfl, rfl, by decide +kernel⟩
theorem runA (w : World) (os : OsState) : (HeadRun.endF (HeadRun.stepQ (HeadRun.denQ HeadRun.tabQ) prg w) 9000 prg w os).map (fun s => HeadRun.looksF prg (PySem.W.boot_heap w.params) s.abs) = some true := by
  kernel_rfl
theorem runB (w : World) (os : OsState) : (HeadRun.endF (HeadRun.stepQ (HeadRun.denQ HeadRun.tabQ) prg w) 9000 prg w os).map (fun s => HeadRun.seenQ qv nms (importedModules prg.main.body) (fun s => PySem.W.xlAt qv [] s && PySem.W.recOk [] s) s.abs) = some (PySem.W.openGood qv nms) := by
  kernel_rfl
theorem runC (w : World) (os : OsState) : (HeadRun.endF (HeadRun.stepQ (HeadRun.denQ HeadRun.tabQ) prg w) 9000 prg w os).map (fun s => asK.map (HeadRun.getT s)) = some ((KF w.params).map fun x => some x.2) := by
  kernel_rfl
theorem map3 {A B C D : Type} {o : Option A} {f : A → B} {g : A → C} {k : A → D} {b : B} {c : C} {d : D} (h1 : o.map f = some b) (h2 : o.map g = some c) (h3 : o.map k = some d) : o.map (fun s => (f s, g s, k s)) = some (b, c, d) := by
  cases o with
  | none => cases h1
  | some s =>
    have e1 : f s = b := Option.some.inj h1
    have e2 : g s = c := Option.some.inj h2
    have e3 : k s = d := Option.some.inj h3
    show some (f s, g s, k s) = _
    rw [e1, e2, e3]
theorem opens0 : PySem.W.opening prg = PySem.W.plainProg prg.main.scope.names := by kernel_rfl
theorem fence0 (s : Shared) : PySem.fenceModules? prg s = some s := by kernel_rfl
theorem left0 : PySem.W.LeftO prg qv nms (fun s => PySem.W.xlAt qv [] s && PySem.W.recOk [] s) (PySem.W.Hook.obs (PySem.W.kHook KF asK asK_eq)) (PySem.W.Hook.val (PySem.W.kHook KF asK asK_eq)) 9700 true :=
  HeadRun.left_oneK (M := 9000) opens0 rfl fence0 rfl fun w os => map3 (runA w os) (runB w os) (runC w os)
theorem okay0 : (PySem.W.chainsOk qv && PySem.W.opensWell prg) = true := by decide +kernel
end SP
namespace SP
open PySem PySem.Spec PyProof.Rows L2 LamX
local macro_rules | `(tactic| walk_at "rd") => `(tactic| (first
  | ((with_reducible refine' rd_var ?wv ?_); (case wv => exact rfl)) | with_reducible refine rd_op ?_ | with_reducible refine rd_c ?_ | with_reducible refine rd_I0 ?_ | with_reducible refine rd_seq ?_ | with_reducible refine rd_asg ?_ | with_reducible refine rd_ret ?_ | with_reducible refine rd_if ?_ | with_reducible refine rd_test ?_ | with_reducible refine rd_k ?_ | with_reducible refine rd_kV ?_
  | with_reducible refine rd_eq ?_ | with_reducible refine rd_ne ?_ | with_reducible refine rd_call ?_ | with_reducible refine rd_cons ?_ | with_reducible refine rd_nil ?_ | with_reducible refine rd_un ?_ | with_reducible refine rd_U ?_ | with_reducible refine rd_next ?_ | ((with_reducible refine' rd_aug ?wv ?_); (case wv => exact rfl)) | with_reducible refine rd_ip ?_
  | with_reducible refine rd_not ?_ | with_reducible refine rd_tB ?_  | with_reducible refine rd_notV ?_ | with_reducible refine rd_tup ?_ | with_reducible refine rd_lst ?_ | with_reducible refine rd_cb ?_  | with_reducible refine rd_sl ?_ | with_reducible refine rd_part ?_ | with_reducible refine rd_nopart ?_ | with_reducible refine rd_int ?_ | with_reducible refine rd_eqs ?_ | with_reducible refine rd_drop ?_ | with_reducible refine rd_asgT ?_ | with_reducible refine rd_cont ?_ | with_reducible refine rd_l1 ?_ | with_reducible refine rd_l2 ?_ | with_reducible refine rd_lc ?_ | with_reducible refine rd_rng1 ?_ | with_reducible refine rd_rng2 ?_ | with_reducible refine rd_yes ?_ | with_reducible refine rd_ilist ?_ | with_reducible refine rd_itup ?_ | with_reducible refine rd_g ?_ | with_reducible refine rd_iteT ?_ | with_reducible refine rd_ref ?_ | with_reducible refine rd_tfld ?_ | with_reducible refine rd_sfld ?_ | with_reducible refine rd_bm ?_ | with_reducible refine rd_fmt ?_ | with_reducible refine rd_m1 ?_ | with_reducible refine rd_orT ?_ | with_reducible refine rd_istr ?_ | with_reducible refine rd_ienum ?_ | with_reducible refine rd_js0 ?_ | with_reducible refine rd_js1 ?_ | with_reducible refine rd_make ?_ | with_reducible refine rd_meth ?_ | with_reducible refine rd_str ?_ | with_reducible refine rd_bl ?_))
local macro_rules | `(tactic| walk_at "rds") => `(tactic| repeat walk_at "rd")
local macro_rules | `(tactic| walk_at "rm") => `(tactic| (((with_reducible refine' rd_I ?wm ?_); (case wm => first | exact cdiv_of (by omega) (by omega) | exact cmul_of (by omega) (by omega) (by omega) (by omega) | (show (0 : Int) < _; omega)))))
local macro_rules | `(tactic| walk_at "rx") => `(tactic| repeat (first | walk_at "rd" | walk_at "rm"))
local macro_rules | `(tactic| walk_at "ra") => `(tactic| ((with_reducible first | refine' rd_and2 ?wa ?wb ?_ | refine' rd_or2 ?wa ?wb ?_ | refine' rd_andV2 ?wa ?wb ?_ | refine' rd_orV2 ?wa ?wb ?_); (case wa => (intro Q1 q1; walk_at "rz"; exact q1)); (case wb => (intro Q1 q1; walk_at "rz"; exact q1))))
local macro_rules | `(tactic| walk_at "rc") => `(tactic| ((with_reducible refine' rd_chain2 ?wa ?wb ?wc ?_); (case wa => (intro Q1 q1; walk_at "rz"; exact q1)); (case wb => (intro Q1 q1; walk_at "rz"; exact q1)); (case wc => (intro Q1 q1; walk_at "rz"; exact q1))))
local macro_rules | `(tactic| walk_at "rz") => `(tactic| repeat (first | walk_at "rd" | walk_at "rm" | walk_at "ra" | walk_at "rc"))
section
variable {P : Program} {w : World} {K : PySem.W.Frag} {mg : Str → Option Value} {base : Heap} {Ts : List (Addr × Str)} {Ct Cs : Addr}
/-! ### alternating_sum .. cosine -/
theorem sc_alternating_sum : FnScope ["first", "y", "n", "total", "term", "k", "divisor"] ["first", "y", "n"] (defScope (top 7)) := ⟨rfl, rfl, rfl, by decide +kernel, rfl, by decide +kernel, by decide +kernel⟩
def spAlt : Sp := spF3 (fun t y n => 0 ≤ t ∧ t ≤ 1000000000000000000 ∧ 0 ≤ y ∧ y ≤ 1000000000000000000 ∧ 1 ≤ n ∧ n ≤ 2) fun t y n => .int (Dz01.series 12 y t n)
theorem has_alternating_sum (C : Ctx P w K mg base Ts Ct Cs) : Has P w K mg base "alternating_sum" 1 ["first", "y", "n"] spAlt := by
  refine has_of C.t.d_alternating_sum sc_alternating_sum (fun vs H Q E h => by obtain ⟨a, b, c, rfl, _⟩ := h; rfl) (fun _ _ _ _ _ _ us hl => match us, hl with | [_, _, _], _ => rfl) fun f cdv A outer s H vs Q E hr h => ⟨_, (pss_cons (ps_set (i := 3) sc_alternating_sum.nd rfl (Or.inl rfl) pe_int) (pss_cons (ps_set (i := 4) sc_alternating_sum.nd rfl (Or.inl rfl) (pv 0)) (pss_cons (ps_for PassesOwn.never rfl (pi_range1 rfl C.t.range_ (pa_cons (pe_gi C.t.TERM_COUNT) pa_nil)) (pg_name (i := 5) sc_alternating_sum.nd rfl (Or.inl rfl)) (pss_cons (ps_if (pt_cmpR op_eq (pe_op op_mod (pv 5) pe_int) pe_int (nomark _)) (pss_one (ps_aug (i := 3) sc_alternating_sum.nd rfl (Or.inl rfl) (pv 4) ip_add)) (pss_one (ps_aug (i := 3) sc_alternating_sum.nd rfl (Or.inl rfl) (pv 4) ip_sub))) (pss_cons (ps_set (i := 6) sc_alternating_sum.nd rfl (Or.inl rfl) (pe_op op_add (pv 2) (pe_op op_mulW pe_int (pv 5)))) (pss_one (ps_set (i := 4) sc_alternating_sum.nd rfl (Or.inl rfl) (pe_op op_fdivW (pe_op op_fdivW (pe_op op_mulW (pv 4) (pv 1)) (pe_gi C.t.ONE)) (pe_op op_mulW (pv 6) (pe_op op_add (pv 6) pe_int)))))))) (pss_one (ps_ret (pv 3)))))), ?_⟩
  obtain ⟨t, y, n, rfl, ⟨t0, t1, y0, y1, n0, n1⟩, q⟩ := h
  walk_at "rx"
  refine ⟨12, rfl, by decide, by decide, for_range (n := 12) (fun k σ H' => H' = H ∧ ∃ v1 v2 : Option V, σ = [some (.int t), some (.int y), some (.int n), some (.int (tot y t n k)), some (.int (tm y t n k)), v1, v2]) ⟨rfl, none, none, rfl⟩ ?_ ?_⟩
  · rintro k σ H' hk ⟨rfl, v1, v2, rfl⟩
    have hk' : k < 12 := hk
    obtain ⟨b0, b1⟩ := tm_bd t0 y0 y1 n0 k
    have hd : 1 * 1 ≤ (n + 2 * (k : Int)) * (n + 2 * (k : Int) + 1) := mul_le (by decide) (by omega) (by decide) (by omega)
    have hd2 : (n + 2 * (k : Int)) * (n + 2 * (k : Int) + 1) ≤ 1000 * 1000 := mul_le (by omega) (by omega) (by omega) (by omega)
    rw [Int.zero_add]
    show tSeq _ _ _ _ _
    walk_at "rx"
    refine rd_d (fun h => ?_) (fun h => ?_)
    · walk_at "rx"
      refine ⟨rfl, some (.int (k : Int)), some (.int (n + 2 * (k : Int))), ?_⟩
      have e1 : tot y t n (k + 1) = tot y t n k + tm y t n k := if_pos (by omega)
      rw [e1]
      rfl
    · walk_at "rx"
      refine ⟨rfl, some (.int (k : Int)), some (.int (n + 2 * (k : Int))), ?_⟩
      have e1 : tot y t n (k + 1) = tot y t n k - tm y t n k := if_neg (by omega)
      rw [e1]
      rfl
  · rintro σ H' ⟨rfl, v1, v2, rfl⟩
    walk_at "rx"
    rw [tot_series]
    exact q
theorem sc_sine_series : FnScope ["a", "x"] ["a"] (defScope (top 8)) := ⟨rfl, rfl, rfl, by decide +kernel, rfl, by decide +kernel, by decide +kernel⟩
theorem has_sine_series (C : Ctx P w K mg base Ts Ct Cs) : Has P w K mg base "sine_series" 2 ["a"] (spF1 (fun a => 0 ≤ a ∧ 2 * a ≤ 324000000) fun a => .int (Dz01.smallSin a)) := by
  refine has_of C.t.d_sine_series sc_sine_series (fun vs H Q E h => by obtain ⟨a, rfl, _⟩ := h; rfl) (fun _ _ _ _ _ _ us hl => match us, hl with | [_], _ => rfl) fun f cdv A outer s H vs Q E hr h => ⟨_, (pss_cons (ps_set (i := 1) sc_sine_series.nd rfl (Or.inl rfl) (pe_op op_fdivW (pe_op op_mulW (pv 0) (pe_gi C.t.SCALED_PI)) (pe_gi C.t.HALF_TURN))) (pss_one (ps_ret (pe_h (has_alternating_sum C) (hr.mono (by decide)) rfl (pa_cons (pv 1) (pa_cons (pe_op op_fdivW (pe_op op_mulW (pv 1) (pv 1)) (pe_gi C.t.ONE)) (pa_cons pe_int pa_nil))))))), ?_⟩
  obtain ⟨a, rfl, ⟨a0, a1⟩, q⟩ := h
  obtain ⟨x0, x1⟩ := rad_bd a0 a1
  obtain ⟨s0, s1⟩ := sq_bd x0 x1
  have ex : Dz01.radians a = a * 3141592653589793238 / 648000000 := rfl
  have es : ∀ z : Int, z / Dz01.ONE = z / 1000000000000000000 := fun _ => rfl
  walk_at "rx"
  rw [← ex, ← es]
  exact rd_f3 ⟨x0, by omega, s0, by omega, by decide, by decide⟩ q
theorem sc_cosine_series : FnScope ["a", "x"] ["a"] (defScope (top 9)) := ⟨rfl, rfl, rfl, by decide +kernel, rfl, by decide +kernel, by decide +kernel⟩
theorem has_cosine_series (C : Ctx P w K mg base Ts Ct Cs) : Has P w K mg base "cosine_series" 2 ["a"] (spF1 (fun a => 0 ≤ a ∧ 2 * a ≤ 324000000) fun a => .int (Dz01.smallCos a)) := by
  refine has_of C.t.d_cosine_series sc_cosine_series (fun vs H Q E h => by obtain ⟨a, rfl, _⟩ := h; rfl) (fun _ _ _ _ _ _ us hl => match us, hl with | [_], _ => rfl) fun f cdv A outer s H vs Q E hr h => ⟨_, (pss_cons (ps_set (i := 1) sc_cosine_series.nd rfl (Or.inl rfl) (pe_op op_fdivW (pe_op op_mulW (pv 0) (pe_gi C.t.SCALED_PI)) (pe_gi C.t.HALF_TURN))) (pss_one (ps_ret (pe_h (has_alternating_sum C) (hr.mono (by decide)) rfl (pa_cons (pe_gi C.t.ONE) (pa_cons (pe_op op_fdivW (pe_op op_mulW (pv 1) (pv 1)) (pe_gi C.t.ONE)) (pa_cons pe_int pa_nil))))))), ?_⟩
  obtain ⟨a, rfl, ⟨a0, a1⟩, q⟩ := h
  obtain ⟨x0, x1⟩ := rad_bd a0 a1
  obtain ⟨s0, s1⟩ := sq_bd x0 x1
  have ex : Dz01.radians a = a * 3141592653589793238 / 648000000 := rfl
  have es : ∀ z : Int, z / Dz01.ONE = z / 1000000000000000000 := fun _ => rfl
  walk_at "rx"
  rw [← ex, ← es]
  exact rd_f3 ⟨by decide, by decide, s0, by omega, by decide, by decide⟩ q
theorem sc_quarter_sine : FnScope ["a"] ["a"] (defScope (top 10)) := ⟨rfl, rfl, rfl, by decide +kernel, rfl, by decide +kernel, by decide +kernel⟩
theorem has_quarter_sine (C : Ctx P w K mg base Ts Ct Cs) : Has P w K mg base "quarter_sine" 3 ["a"] (spF1 (fun a => 0 ≤ a ∧ a < 324000000) fun a => .int (Dz01.quarterSin a)) := by
  refine has_of C.t.d_quarter_sine sc_quarter_sine (fun vs H Q E h => by obtain ⟨a, rfl, _⟩ := h; rfl) (fun _ _ _ _ _ _ us hl => match us, hl with | [_], _ => rfl) fun f cdv A outer s H vs Q E hr h => ⟨_, (pss_cons (ps_if (pt_cmpR op_le (pe_op op_mulW pe_int (pv 0)) (pe_gi C.t.QUARTER) (nomark _)) (pss_one (ps_ret (pe_h (has_sine_series C) (hr.mono (by decide)) rfl (pa_cons (pv 0) pa_nil)))) pss_nil) (pss_one (ps_ret (pe_h (has_cosine_series C) (hr.mono (by decide)) rfl (pa_cons (pe_op op_sub (pe_gi C.t.QUARTER) (pv 0)) pa_nil))))), ?_⟩
  obtain ⟨a, rfl, ⟨a0, a1⟩, q⟩ := h
  walk_at "rx"
  refine rd_d (fun h => ?_) (fun h => ?_)
  · walk_at "rx"
    refine rd_f1 ⟨a0, h⟩ ?_
    have e : Dz01.quarterSin a = Dz01.smallSin a := if_pos h
    rw [← e]
    exact q
  · walk_at "rx"
    refine rd_f1 ⟨by omega, by omega⟩ ?_
    have e : Dz01.quarterSin a = Dz01.smallCos (324000000 - a) := if_neg h
    rw [← e]
    exact q
theorem sc_quarter_cosine : FnScope ["a"] ["a"] (defScope (top 11)) := ⟨rfl, rfl, rfl, by decide +kernel, rfl, by decide +kernel, by decide +kernel⟩
theorem has_quarter_cosine (C : Ctx P w K mg base Ts Ct Cs) : Has P w K mg base "quarter_cosine" 3 ["a"] (spF1 (fun a => 0 ≤ a ∧ a < 324000000) fun a => .int (Dz01.quarterCos a)) := by
  refine has_of C.t.d_quarter_cosine sc_quarter_cosine (fun vs H Q E h => by obtain ⟨a, rfl, _⟩ := h; rfl) (fun _ _ _ _ _ _ us hl => match us, hl with | [_], _ => rfl) fun f cdv A outer s H vs Q E hr h => ⟨_, (pss_cons (ps_if (pt_cmpR op_le (pe_op op_mulW pe_int (pv 0)) (pe_gi C.t.QUARTER) (nomark _)) (pss_one (ps_ret (pe_h (has_cosine_series C) (hr.mono (by decide)) rfl (pa_cons (pv 0) pa_nil)))) pss_nil) (pss_one (ps_ret (pe_h (has_sine_series C) (hr.mono (by decide)) rfl (pa_cons (pe_op op_sub (pe_gi C.t.QUARTER) (pv 0)) pa_nil))))), ?_⟩
  obtain ⟨a, rfl, ⟨a0, a1⟩, q⟩ := h
  walk_at "rx"
  refine rd_d (fun h => ?_) (fun h => ?_)
  · walk_at "rx"
    refine rd_f1 ⟨a0, h⟩ ?_
    have e : Dz01.quarterCos a = Dz01.smallCos a := if_pos h
    rw [← e]
    exact q
  · walk_at "rx"
    refine rd_f1 ⟨by omega, by omega⟩ ?_
    have e : Dz01.quarterCos a = Dz01.smallSin (324000000 - a) := if_neg h
    rw [← e]
    exact q
theorem sc_sine : FnScope ["a", "within", "quarter", "rest"] ["a"] (defScope (top 12)) := ⟨rfl, rfl, rfl, by decide +kernel, rfl, by decide +kernel, by decide +kernel⟩
abbrev spSin : Sp := spF1 (fun _ => True) fun a => .int (Dz01.sin a)
theorem has_sine (C : Ctx P w K mg base Ts Ct Cs) : Has P w K mg base "sine" 4 ["a"] spSin := by
  refine has_of C.t.d_sine sc_sine (fun vs H Q E h => by obtain ⟨a, rfl, _⟩ := h; rfl) (fun _ _ _ _ _ _ us hl => match us, hl with | [_], _ => rfl) fun f cdv A outer s H vs Q E hr h => ⟨_, (pss_cons (ps_set (i := 1) sc_sine.nd rfl (Or.inl rfl) (pe_op op_mod (pv 0) (pe_gi C.t.TURN))) (pss_cons (ps_set (i := 2) sc_sine.nd rfl (Or.inl rfl) (pe_op op_fdivW (pv 1) (pe_gi C.t.QUARTER))) (pss_cons (ps_set (i := 3) sc_sine.nd rfl (Or.inl rfl) (pe_op op_mod (pv 1) (pe_gi C.t.QUARTER))) (pss_cons (ps_if (pt_cmpR op_eq (pv 2) pe_int (nomark _)) (pss_one (ps_ret (pe_h (has_quarter_sine C) (hr.mono (by decide)) rfl (pa_cons (pv 3) pa_nil)))) pss_nil) (pss_cons (ps_if (pt_cmpR op_eq (pv 2) pe_int (nomark _)) (pss_one (ps_ret (pe_h (has_quarter_cosine C) (hr.mono (by decide)) rfl (pa_cons (pv 3) pa_nil)))) pss_nil) (pss_cons (ps_if (pt_cmpR op_eq (pv 2) pe_int (nomark _)) (pss_one (ps_ret (pe_un un_neg (pe_h (has_quarter_sine C) (hr.mono (by decide)) rfl (pa_cons (pv 3) pa_nil))))) pss_nil) (pss_one (ps_ret (pe_un un_neg (pe_h (has_quarter_cosine C) (hr.mono (by decide)) rfl (pa_cons (pv 3) pa_nil))))))))))), ?_⟩
  obtain ⟨a, rfl, _, q⟩ := h
  have q : Q (.int (Dz01.sin a)) H := q
  obtain ⟨h1, h2, h3, h4⟩ := red_bd a
  have er : Dz01.reduced a = a % 1296000000 := rfl
  have eq : Dz01.QUARTER = 324000000 := rfl
  have es : Dz01.sin a = if Dz01.reduced a / Dz01.QUARTER = 0 then Dz01.quarterSin (Dz01.reduced a % Dz01.QUARTER) else if Dz01.reduced a / Dz01.QUARTER = 1 then Dz01.quarterCos (Dz01.reduced a % Dz01.QUARTER) else if Dz01.reduced a / Dz01.QUARTER = 2 then -Dz01.quarterSin (Dz01.reduced a % Dz01.QUARTER) else -Dz01.quarterCos (Dz01.reduced a % Dz01.QUARTER) := rfl
  rw [es] at q
  rw [er, eq] at q h1 h2 h3 h4
  walk_at "rx"
  refine rd_d (fun c0 => ?_) (fun c0 => ?_)
  · rw [if_pos c0] at q
    walk_at "rx"
    exact rd_f1 ⟨h3, h4⟩ q
  rw [if_neg c0] at q
  walk_at "rx"
  refine rd_d (fun c1 => ?_) (fun c1 => ?_)
  · rw [if_pos c1] at q
    walk_at "rx"
    exact rd_f1 ⟨h3, h4⟩ q
  rw [if_neg c1] at q
  walk_at "rx"
  refine rd_d (fun c2 => ?_) (fun c2 => ?_)
  · rw [if_pos c2] at q
    walk_at "rx"
    refine rd_f1 ⟨h3, h4⟩ ?_
    exact ⟨_, rfl, q⟩
  rw [if_neg c2] at q
  walk_at "rx"
  refine rd_f1 ⟨h3, h4⟩ ?_
  exact ⟨_, rfl, q⟩
theorem sc_cosine : FnScope ["a"] ["a"] (defScope (top 13)) := ⟨rfl, rfl, rfl, by decide +kernel, rfl, by decide +kernel, by decide +kernel⟩
abbrev spCos : Sp := spF1 (fun _ => True) fun a => .int (Dz01.cos a)
theorem has_cosine (C : Ctx P w K mg base Ts Ct Cs) : Has P w K mg base "cosine" 5 ["a"] spCos := by
  refine has_of C.t.d_cosine sc_cosine (fun vs H Q E h => by obtain ⟨a, rfl, _⟩ := h; rfl) (fun _ _ _ _ _ _ us hl => match us, hl with | [_], _ => rfl) fun f cdv A outer s H vs Q E hr h => ⟨_, (pss_one (ps_ret (pe_h (has_sine C) (hr.mono (by decide)) rfl (pa_cons (pe_op op_add (pv 0) (pe_gi C.t.QUARTER)) pa_nil)))), ?_⟩
  obtain ⟨a, rfl, _, q⟩ := h
  have q : Q (.int (Dz01.cos a)) H := q
  walk_at "rx"
  refine rd_f1 trivial ?_
  rw [cos_sin] at q
  exact q
end
section
variable {P : Program} {w : World} {K : PySem.W.Frag} {mg : Str → Option Value} {base : Heap} {Ts : List (Addr × Str)} {Ct Cs : Addr}
/-! ### halve, arcsin, direction -/
theorem sc_halve : FnScope ["holds", "low", "high", "lo", "hi", "middle"] ["holds", "low", "high"] (defScope (top 14)) := ⟨rfl, rfl, rfl, by decide +kernel, rfl, by decide +kernel, by decide +kernel⟩
theorem bis_small {p : Int → Bool} {m : Nat} {lo hi : Int} (h : hi - lo ≤ 1) : Dz01.bisect p m lo hi = lo := by
  cases m with
  | zero => rfl
  | succ m => exact if_pos h
theorem halves_ok {X : Cx} {g : Addr} {cdg : Value} {k : Nat} : Halves X ["holds", "low", "high", "lo", "hi", "middle"] "halve" (defScope (top 14)) g cdg (defBody (top 14)) "holds" "low" "high" k := by
  intro f s H lo hi p F Q G hF hG act hQ
  refine ⟨_, (pss_cons (ps_set (i := 3) sc_halve.nd rfl (Or.inl rfl) (pv 1)) (pss_cons (ps_set (i := 4) sc_halve.nd rfl (Or.inl rfl) (pv 2)) (pss_cons (ps_while PassesOwn.never (pt_cmpR op_gt (pe_op op_sub (pv 4) (pv 3)) pe_int (nomark _))
    (pss_cons (ps_set (i := 5) sc_halve.nd rfl (Or.inl rfl) (pe_op op_fdivW (pe_op op_add (pv 3) (pv 4)) pe_int)) (pss_one (ps_if (pt_val (act _ _ _ _ (pa_cons (pv 5) pa_nil) rfl)) (pss_one (ps_set (i := 3) sc_halve.nd rfl (Or.inl rfl) (pv 5))) (pss_one (ps_set (i := 4) sc_halve.nd rfl (Or.inl rfl) (pv 5))))))) (pss_one (ps_ret (pv 3)))))), ?_⟩
  walk_at "rx"
  refine ⟨fun m σ H' => H' = H ∧ ∃ (lo' hi' : Int) (v : Option V), σ = [some (.ref f), some (.int lo), some (.int hi), some (.int lo'), some (.int hi'), v] ∧ lo ≤ lo' ∧ hi' ≤ hi ∧ hi' - lo' ≤ 2 ^ m ∧ Dz01.bisect p m lo' hi' = Dz01.bisect p F lo hi,
    ⟨F, rfl, lo, hi, none, rfl, Int.le_refl _, Int.le_refl _, hF, rfl⟩, ?_⟩
  rintro m σ H' ⟨rfl, lo', hi', v, rfl, h1, h2, h3, h4⟩
  walk_at "rx"
  refine rd_d (fun c => ?_) (fun c => ?_)
  · cases m with
    | zero =>
      have h3' : hi' - lo' ≤ 1 := h3
      omega
    | succ m =>
      have h3' : hi' - lo' ≤ 2 ^ m * 2 := h3
      refine ⟨fun σ H'' => H'' = H' ∧ ∃ (lo' hi' : Int) (v : Option V), σ = [some (.ref f), some (.int lo), some (.int hi), some (.int lo'), some (.int hi'), v] ∧ lo ≤ lo' ∧ hi' ≤ hi ∧ hi' - lo' ≤ 2 ^ m ∧ Dz01.bisect p m lo' hi' = Dz01.bisect p F lo hi,
        fun σ H'' h => ⟨m, Nat.lt_succ_self m, h⟩, ?_⟩
      walk_at "rx"
      refine ⟨rfl, ?_⟩
      walk_at "rx"
      refine ⟨_, rfl, hG _ _ (by omega) (by omega) ?_⟩
      walk_at "rx"
      refine rd_b (fun b => ?_) (fun b => ?_)
      · walk_at "rx"
        refine ⟨rfl, (lo' + hi') / 2, hi', _, rfl, by omega, h2, by omega, ?_⟩
        rw [← h4]
        exact ((if_neg (by omega)).trans (if_pos b)).symm
      · walk_at "rx"
        refine ⟨rfl, lo', (lo' + hi') / 2, _, rfl, h1, by omega, by omega, ?_⟩
        rw [← h4]
        exact ((if_neg (by omega)).trans (if_neg (by rw [b]; decide))).symm
  · walk_at "rx"
    rw [bis_small (by omega)] at h4
    rw [h4]
    exact hQ
theorem tabs_ext {Ts : List (Addr × Str)} {H H1 : Hp} (e : ExtN H H1) (t : Tabs Ts H1) : Up Ts H H1 := ⟨e, t⟩
theorem sc_arcsin : FnScope ["v", "size", "found"] ["v"] (defScope (top 15)) := ⟨rfl, rfl, rfl, by decide +kernel, rfl, by decide +kernel, by decide +kernel⟩
abbrev spArc (Ts : List (Addr × Str)) : Sp := spG1 Ts (fun _ => True) fun v => .int (Dz01.arcsin v)
theorem has_arcsin (C : Ctx P w K mg base Ts Ct Cs) : Has P w K mg base "arcsin" 8 ["v"] (spArc Ts) := by
  obtain ⟨fh, fdh, hmh, Fh⟩ := C.t.d_halve
  have kph := Fh.kp
  obtain ⟨och, odh, kVh, doch, pmh, anh, cdh', cth, oslh, efd, lkh, cdh⟩ := Fh.ex
  subst efd
  have bh := Fh.binds (ps := ["holds", "low", "high"]) fun _ _ _ _ _ _ us hl => match us, hl with | [_, _, _], _ => rfl
  refine hasL_of (k := 7) C.l_arcsin sc_arcsin (fun vs H Q E h => by obtain ⟨a, rfl, _⟩ := h; rfl) (fun _ _ _ _ _ _ us hl => match us, hl with | [_], _ => rfl) fun f co Pt A outer s H vs Q E TB hmT hu hr h => ⟨_, (pss_cons (ps_set (i := 1) sc_arcsin.nd rfl (Or.inr rfl) (pe_callB call_abs (by rfl) C.t.abs_ (by decide +kernel) (pa_cons (pv 0) pa_nil))) (pss_cons (ps_set (i := 2) sc_arcsin.nd rfl (Or.inl rfl) (pe_lamH (a := "holds") (b := "low") (c := "high") (y := "m") (Ng := ["holds", "low", "high", "lo", "hi", "middle"]) rfl hmh kph lkh cdh bh sc_halve rfl (Or.inl rfl) halves_ok TB rfl hmT hu hr (lamS1_by (sc := defScope (top 15)) (by decide +kernel)) (show ("m" : Str) ∉ (["v", "size", "found"] : List Str) by decide) rfl (fun _ _ _ _ _ _ => rfl) (fun A2 outer2 s2 H2 f2 c2 hr2 => (pe_cmpR op_le (pe_h (has_sine C) (hr2.mono (by decide)) rfl (pa_cons (pv 0) pa_nil)) (pv 2) (nomark _))) (pa_cons pe_int (pa_cons (pe_op op_add (pe_gi C.t.QUARTER) pe_int) pa_nil)))) (pss_cons (ps_if (pt_cmpR op_lt (pv 0) pe_int (nomark _)) (pss_one (ps_ret (pe_un un_neg (pv 2)))) pss_nil) (pss_one (ps_ret (pv 2)))))), ?_⟩
  obtain ⟨v, rfl, _, t, q⟩ := h
  have q : ∀ H', Up Ts H H' → Q (.int (Dz01.arcsin v)) H' := q
  have en : (if v < 0 then -v else v) = ((v.natAbs : Nat) : Int) := by
    split <;> omega
  walk_at "rx"
  rw [en]
  walk_at "rx"
  refine ⟨t, fun H1 e1 t1 => ?_⟩
  walk_at "rx"
  refine ⟨0, 324000001, fun x => decide (Dz01.sin x ≤ ((v.natAbs : Nat) : Int)), 30, rfl, by decide, rfl, fun m m0 m1 Q' q' => ?_, ?_⟩
  · walk_at "rx"
    refine rd_f1 trivial ?_
    walk_at "rx"
    exact q'
  have q1 := q H1 ⟨e1, t1⟩
  have ea : Dz01.arcsin v = if v < 0 then -Dz01.bisect (fun x => decide (Dz01.sin x ≤ ((v.natAbs : Nat) : Int))) 30 0 324000001 else Dz01.bisect (fun x => decide (Dz01.sin x ≤ ((v.natAbs : Nat) : Int))) 30 0 324000001 := rfl
  rw [ea] at q1
  walk_at "rx"
  refine rd_d (fun c => ?_) (fun c => ?_)
  · rw [if_pos c] at q1
    walk_at "rx"
    exact q1
  · rw [if_neg c] at q1
    walk_at "rx"
    exact q1
theorem sc_quarter_direction : FnScope ["x", "y"] ["x", "y"] (defScope (top 16)) := ⟨rfl, rfl, rfl, by decide +kernel, rfl, by decide +kernel, by decide +kernel⟩
def Bx (M x : Int) : Prop := -M ≤ x ∧ x ≤ M
abbrev spQd (Ts : List (Addr × Str)) : Sp := spG2 Ts (fun x y => Bx (10 ^ 40) x ∧ Bx (10 ^ 40) y) fun x y => .int (Dz01.firstQuarter x y)
theorem has_quarter_direction (C : Ctx P w K mg base Ts Ct Cs) : Has P w K mg base "quarter_direction" 8 ["x", "y"] (spQd Ts) := by
  obtain ⟨fh, fdh, hmh, Fh⟩ := C.t.d_halve
  have kph := Fh.kp
  obtain ⟨och, odh, kVh, doch, pmh, anh, cdh', cth, oslh, efd, lkh, cdh⟩ := Fh.ex
  subst efd
  have bh := Fh.binds (ps := ["holds", "low", "high"]) fun _ _ _ _ _ _ us hl => match us, hl with | [_, _, _], _ => rfl
  refine hasL_of (k := 7) C.l_quarter_direction sc_quarter_direction (fun vs H Q E h => by obtain ⟨a, b, rfl, _⟩ := h; rfl) (fun _ _ _ _ _ _ us hl => match us, hl with | [_, _], _ => rfl) fun f co Pt A outer s H vs Q E TB hmT hu hr h => ⟨_, (pss_one (ps_ret (pe_lamH (a := "holds") (b := "low") (c := "high") (y := "m") (Ng := ["holds", "low", "high", "lo", "hi", "middle"]) rfl hmh kph lkh cdh bh sc_halve rfl (Or.inl rfl) halves_ok TB rfl hmT hu hr (lamS1_by (sc := defScope (top 16)) (by decide +kernel)) (show ("m" : Str) ∉ (["x", "y"] : List Str) by decide) rfl (fun _ _ _ _ _ _ => rfl) (fun A2 outer2 s2 H2 f2 c2 hr2 => (pe_cmpR op_le (pe_op op_mulW (pe_h (has_sine C) (hr2.mono (by decide)) rfl (pa_cons (pv 0) pa_nil)) (pv 1)) (pe_op op_mulW (pv 2) (pe_h (has_cosine C) (hr2.mono (by decide)) rfl (pa_cons (pv 0) pa_nil))) (nomark _))) (pa_cons pe_int (pa_cons (pe_gi C.t.QUARTER) pa_nil))))), ?_⟩
  obtain ⟨x, y, rfl, ⟨⟨x0, x1⟩, ⟨y0, y1⟩⟩, t, q⟩ := h
  walk_at "rx"
  refine ⟨t, fun H1 e1 t1 => ?_⟩
  walk_at "rx"
  refine ⟨0, 324000000, fun a => decide (Dz01.sin a * x ≤ y * Dz01.cos a), 30, rfl, by decide, rfl, fun m m0 m1 Q' q' => ?_, q H1 ⟨e1, t1⟩⟩
  have es : Dz01.ONE = 1000000000000000000 := rfl
  obtain ⟨s0, s1⟩ := sin_bd m
  obtain ⟨c0, c1⟩ := cos_bd m
  rw [es] at s0 s1 c0 c1
  walk_at "rx"
  refine rd_f1 trivial ?_
  walk_at "rx"
  refine rd_f1 trivial ?_
  walk_at "rx"
  exact q'
theorem sc_direction : FnScope ["x", "y"] ["x", "y"] (defScope (top 17)) := ⟨rfl, rfl, rfl, by decide +kernel, rfl, by decide +kernel, by decide +kernel⟩
abbrev spDir (Ts : List (Addr × Str)) : Sp := spG2 Ts (fun x y => Bx (10 ^ 40) x ∧ Bx (10 ^ 40) y) fun x y => .int (Dz01.direction x y)
theorem has_direction (C : Ctx P w K mg base Ts Ct Cs) : Has P w K mg base "direction" 9 ["x", "y"] (spDir Ts) := by
  refine has_of C.t.d_direction sc_direction (fun vs H Q E h => by obtain ⟨a, b, rfl, _⟩ := h; rfl) (fun _ _ _ _ _ _ us hl => match us, hl with | [_, _], _ => rfl) fun f cdv A outer s H vs Q E hr h => ⟨_, (pss_cons (ps_if (PW.pt (pw_and (pt_cmpR op_eq (pv 0) pe_int (nomark _)) (pw_and1 (pt_cmpR op_eq (pv 1) pe_int (nomark _))))) (pss_one (ps_ret pe_int)) pss_nil) (pss_cons (ps_if (PW.pt (pw_and (pt_cmpR op_gt (pv 0) pe_int (nomark _)) (pw_and1 (pt_cmpR op_ge (pv 1) pe_int (nomark _))))) (pss_one (ps_ret (pe_h (has_quarter_direction C) (hr.mono (by decide)) rfl (pa_cons (pv 0) (pa_cons (pv 1) pa_nil))))) pss_nil) (pss_cons (ps_if (PW.pt (pw_and (pt_cmpR op_le (pv 0) pe_int (nomark _)) (pw_and1 (pt_cmpR op_gt (pv 1) pe_int (nomark _))))) (pss_one (ps_ret (pe_op op_add (pe_gi C.t.QUARTER) (pe_h (has_quarter_direction C) (hr.mono (by decide)) rfl (pa_cons (pv 1) (pa_cons (pe_un un_neg (pv 0)) pa_nil)))))) pss_nil) (pss_cons (ps_if (PW.pt (pw_and (pt_cmpR op_lt (pv 0) pe_int (nomark _)) (pw_and1 (pt_cmpR op_le (pv 1) pe_int (nomark _))))) (pss_one (ps_ret (pe_op op_add (pe_op op_mulW pe_int (pe_gi C.t.QUARTER)) (pe_h (has_quarter_direction C) (hr.mono (by decide)) rfl (pa_cons (pe_un un_neg (pv 0)) (pa_cons (pe_un un_neg (pv 1)) pa_nil)))))) pss_nil) (pss_one (ps_ret (pe_op op_add (pe_op op_mulW pe_int (pe_gi C.t.QUARTER)) (pe_h (has_quarter_direction C) (hr.mono (by decide)) rfl (pa_cons (pe_un un_neg (pv 1)) (pa_cons (pv 0) pa_nil)))))))))), ?_⟩
  obtain ⟨x, y, rfl, ⟨⟨x0, x1⟩, ⟨y0, y1⟩⟩, t, q⟩ := h
  have q : ∀ H', Up Ts H H' → Q (.int (Dz01.direction x y)) H' := q
  have ed : Dz01.direction x y = if x = 0 ∧ y = 0 then 0 else if 0 < x ∧ 0 ≤ y then Dz01.firstQuarter x y else if x ≤ 0 ∧ 0 < y then 324000000 + Dz01.firstQuarter y (-x) else if x < 0 ∧ y ≤ 0 then 2 * 324000000 + Dz01.firstQuarter (-x) (-y) else 3 * 324000000 + Dz01.firstQuarter (-y) x := rfl
  rw [ed] at q
  clear ed
  walk_at "rz"
  refine rd_dd (fun c => ?_) (fun c => ?_)
  · rw [if_pos c] at q
    walk_at "rz"
    exact q H (Up.refl t)
  rw [if_neg c] at q
  walk_at "rz"
  refine rd_dd (fun c => ?_) (fun c => ?_)
  · rw [if_pos c] at q
    walk_at "rz"
    exact rd_g2 ⟨⟨x0, x1⟩, ⟨y0, y1⟩⟩ t q
  rw [if_neg c] at q
  walk_at "rz"
  refine rd_dd (fun c => ?_) (fun c => ?_)
  · rw [if_pos c] at q
    walk_at "rz"
    refine rd_g2 ⟨⟨y0, y1⟩, ⟨by omega, by omega⟩⟩ t fun H' u => ?_
    walk_at "rz"
    exact q H' u
  rw [if_neg c] at q
  walk_at "rz"
  refine rd_dd (fun c => ?_) (fun c => ?_)
  · rw [if_pos c] at q
    walk_at "rz"
    refine rd_g2 ⟨⟨by omega, by omega⟩, ⟨by omega, by omega⟩⟩ t fun H' u => ?_
    walk_at "rz"
    exact q H' u
  rw [if_neg c] at q
  walk_at "rz"
  refine rd_g2 ⟨⟨by omega, by omega⟩, ⟨x0, x1⟩⟩ t fun H' u => ?_
  walk_at "rz"
  exact q H' u
end
section
variable {P : Program} {w : World} {K : PySem.W.Frag} {mg : Str → Option Value} {base : Heap} {Ts : List (Addr × Str)} {Ct Cs : Addr}
/-! ### dates, moments, conversions -/
theorem sc_is_leap_year : FnScope ["year"] ["year"] (defScope (top 27)) := ⟨rfl, rfl, rfl, by decide +kernel, rfl, by decide +kernel, by decide +kernel⟩
theorem has_is_leap_year (C : Ctx P w K mg base Ts Ct Cs) : Has P w K mg base "is_leap_year" 1 ["year"] (spF1 (fun _ => True) fun y => .bl (Dz01.isLeap y)) := by
  refine has_of C.t.d_is_leap_year sc_is_leap_year (fun vs H Q E h => by obtain ⟨a, rfl, _⟩ := h; rfl) (fun _ _ _ _ _ _ us hl => match us, hl with | [_], _ => rfl) fun f cdv A outer s H vs Q E hr h => ⟨_, (pss_one (ps_ret (pe_and (pe_cmpR op_eq (pe_op op_mod (pv 0) pe_int) pe_int (nomark _)) (pe_one (pe_or (pe_cmpR op_ne (pe_op op_mod (pv 0) pe_int) pe_int (nomark _)) (pe_one (pe_cmpR op_eq (pe_op op_mod (pv 0) pe_int) pe_int (nomark _)))))))), ?_⟩
  obtain ⟨y, rfl, _, q⟩ := h
  walk_at "rz"
  exact q
theorem sc_month_length : FnScope ["year", "month"] ["year", "month"] (defScope (top 28)) := ⟨rfl, rfl, rfl, by decide +kernel, rfl, by decide +kernel, by decide +kernel⟩
theorem has_month_length (C : Ctx P w K mg base Ts Ct Cs) : Has P w K mg base "month_length" 2 ["year", "month"] (spF2 (fun _ m => 1 ≤ m ∧ m ≤ 12) fun y m => .int (Dz01.monthDays y m)) := by
  obtain ⟨aML, g_MONTH_LENGTHS, kML⟩ := C.t.MONTH_LENGTHS
  refine has_of C.t.d_month_length sc_month_length (fun vs H Q E h => by obtain ⟨a, b, rfl, _⟩ := h; rfl) (fun _ _ _ _ _ _ us hl => match us, hl with | [_, _], _ => rfl) fun f cdv A outer s H vs Q E hr h => ⟨_, (pss_cons (ps_if (PW.pt (pw_and (pt_cmpR op_eq (pv 1) (pe_gi C.t.FEBRUARY) (nomark _)) (pw_and1 (pt_val (pe_h (has_is_leap_year C) (hr.mono (by decide)) rfl (pa_cons (pv 0) pa_nil)))))) (pss_one (ps_ret pe_int)) pss_nil) (pss_one (ps_ret (pe_ix ix_tup (pe_gl g_MONTH_LENGTHS) (pe_op op_sub (pv 1) pe_int) (fun _ _ => rfl))))), ?_⟩
  obtain ⟨y, m, rfl, ⟨m1, m2⟩, q⟩ := h
  have q : Q (.int (Dz01.monthDays y m)) H := q
  walk_at "rx"
  refine rd_and2 (b1 := decide (m = 2)) (b2 := Dz01.isLeap y) (fun Q1 q1 => ?_) (fun Q1 q1 => ?_) ?_
  · walk_at "rx"
    exact q1
  · walk_at "rx"
    refine rd_f1 trivial ?_
    walk_at "rx"
    exact q1
  refine rd_b (fun c => ?_) (fun c => ?_)
  · rw [Bool.and_eq_true] at c
    have e : Dz01.monthDays y m = 29 := (if_pos (of_decide_eq_true c.1)).trans (if_pos c.2)
    rw [e] at q
    walk_at "rx"
    exact q
  · have e : ∃ j : Nat, m - 1 = (j : Int) ∧ ([.int 31, .int 28, .int 31, .int 30, .int 31, .int 30, .int 31, .int 31, .int 30, .int 31, .int 30, .int 31] : List V)[j]? = some (.int (Dz01.monthDays y m)) := by
      have hm : m = 1 ∨ m = 2 ∨ m = 3 ∨ m = 4 ∨ m = 5 ∨ m = 6 ∨ m = 7 ∨ m = 8 ∨ m = 9 ∨ m = 10 ∨ m = 11 ∨ m = 12 := by omega
      rcases hm with r | r | r | r | r | r | r | r | r | r | r | r
      · subst r; exact ⟨0, rfl, rfl⟩
      · subst r
        refine ⟨1, rfl, ?_⟩
        have e2 : Dz01.isLeap y = false := by
          cases e3 : Dz01.isLeap y
          · rfl
          · rw [e3] at c
            cases c
        have e3 : Dz01.monthDays y 2 = if Dz01.isLeap y = true then 29 else 28 := rfl
        rw [e3, e2]
        rfl
      · subst r; exact ⟨2, rfl, rfl⟩
      · subst r; exact ⟨3, rfl, rfl⟩
      · subst r; exact ⟨4, rfl, rfl⟩
      · subst r; exact ⟨5, rfl, rfl⟩
      · subst r; exact ⟨6, rfl, rfl⟩
      · subst r; exact ⟨7, rfl, rfl⟩
      · subst r; exact ⟨8, rfl, rfl⟩
      · subst r; exact ⟨9, rfl, rfl⟩
      · subst r; exact ⟨10, rfl, rfl⟩
      · subst r; exact ⟨11, rfl, rfl⟩
    obtain ⟨j, e1, e2⟩ := e
    walk_at "rx"
    exact ⟨aML, _, m - 1, _, rfl, rfl, kML.sq H, at_of e1 e2, q⟩
theorem sc_days_before_year : FnScope ["year", "past"] ["year"] (defScope (top 29)) := ⟨rfl, rfl, rfl, by decide +kernel, rfl, by decide +kernel, by decide +kernel⟩
theorem has_days_before_year (C : Ctx P w K mg base Ts Ct Cs) : Has P w K mg base "days_before_year" 1 ["year"] (spF1 (fun y => Bx (10 ^ 20) y) fun y => .int (dby y)) := by
  refine has_of C.t.d_days_before_year sc_days_before_year (fun vs H Q E h => by obtain ⟨a, rfl, _⟩ := h; rfl) (fun _ _ _ _ _ _ us hl => match us, hl with | [_], _ => rfl) fun f cdv A outer s H vs Q E hr h => ⟨_, (pss_cons (ps_set (i := 1) sc_days_before_year.nd rfl (Or.inl rfl) (pe_op op_sub (pv 0) pe_int)) (pss_one (ps_ret (pe_op op_add (pe_op op_sub (pe_op op_add (pe_op op_mulW (pv 1) pe_int) (pe_op op_fdivW (pv 1) pe_int)) (pe_op op_fdivW (pv 1) pe_int)) (pe_op op_fdivW (pv 1) pe_int))))), ?_⟩
  obtain ⟨y, rfl, ⟨y0, y1⟩, q⟩ := h
  walk_at "rz"
  exact q
theorem sc_days_before_month : FnScope ["year", "month", "earlier"] ["year", "month"] (defScope (top 30)) := ⟨rfl, rfl, rfl, by decide +kernel, rfl, by decide +kernel, by decide +kernel⟩
abbrev spDbm (Ts : List (Addr × Str)) : Sp := spG2 Ts (fun _ m => 1 ≤ m ∧ m ≤ 12) fun y m => .int (Dz01.daysBeforeMonth y m)
theorem vi_snoc (l : List Int) (x : Int) : vi (l ++ [x]) = vi l ++ [.int x] := by
  unfold vi
  rw [List.map_append]
  rfl
theorem vi_snoc_map (l m : List Int) : vi (l ++ m) = vi l ++ vi m := List.map_append
theorem sum_fold_from : ∀ (l : List Int) (a : Int), l.foldl (fun a b => a + b) a = a + l.sum
  | [], a => by simp
  | x :: r, a => by
    rw [List.foldl_cons, sum_fold_from r, List.sum_cons]
    omega
theorem sum_fold (l : List Int) : l.sum = l.foldl (fun a b => a + b) 0 := by
  rw [sum_fold_from]
  omega
theorem has_days_before_month (C : Ctx P w K mg base Ts Ct Cs) : Has P w K mg base "days_before_month" 3 ["year", "month"] (spDbm Ts) := by
  refine has_of C.t.d_days_before_month sc_days_before_month (fun vs H Q E h => by obtain ⟨a, b, rfl, _⟩ := h; rfl) (fun _ _ _ _ _ _ us hl => match us, hl with | [_, _], _ => rfl) fun f cdv A outer s H vs Q E hr h => ⟨_, (pss_one (ps_ret (pe_callB (cr_sum rfl) (by rfl) C.t.sum_ (by decide +kernel) (pa_cons (pe_lc (own := [("earlier", 2)]) rfl sc_days_before_month.nd (pi_range2 rfl C.t.range_ (pa_cons pe_int (pa_cons (pv 1) pa_nil))) (blkOk_by (N := ["year", "month", "earlier"]) (sc := defScope (top 30)) (by decide +kernel)) (fun _ _ _ _ _ => (pg_name (i := 2) sc_days_before_month.nd rfl (Or.inl rfl) )) (fun _ _ _ _ _ => pts_nil) (fun _ _ _ _ _ => (pe_h (has_month_length C) (hr.mono (by decide)) rfl (pa_cons (pv 0) (pa_cons (pv 2) pa_nil))))) pa_nil)))), ?_⟩
  obtain ⟨y, m, rfl, ⟨m1, m2⟩, t, q⟩ := h
  have q : ∀ H', Up Ts H H' → Q (.int (Dz01.daysBeforeMonth y m)) H' := q
  walk_at "rx"
  refine ⟨⟨by decide, by decide, by omega, by omega⟩, fun D hD => ?_⟩
  refine lc_range (lo := 1) (n := (m - 1).toNat) (fun k H' => H' = upd H D (.lst (vi ((List.range k).map fun (i : Nat) => Dz01.monthDays y ((i : Int) + 1))))) rfl ?_ ?_
  · rintro k H' hk rfl
    walk_at "rx"
    refine ⟨rfl, ?_⟩
    walk_at "rx"
    refine rd_f2 ⟨by omega, by omega⟩ ?_
    refine ⟨_, upd_same, ?_, ?_⟩
    · have : (vi ((List.range k).map fun (i : Nat) => Dz01.monthDays y ((i : Int) + 1))).length < 1000 := by
        unfold vi
        rw [List.length_map, List.length_map, List.length_range]
        omega
      exact Nat.lt_of_lt_of_le this (by decide)
    · rw [upd_upd, List.range_succ, List.map_append, vi_snoc_map, Int.add_comm 1 (k : Int)]
      rfl
  · rintro H' rfl
    walk_at "rx"
    refine ⟨D, _, rfl, .inl (.inl upd_same), ?_⟩
    have e : ((List.range (m - 1).toNat).map fun (i : Nat) => Dz01.monthDays y ((i : Int) + 1)).sum = Dz01.daysBeforeMonth y m := sum_fold _
    rw [e]
    exact q _ (Up.new t hD)
end
section
variable {P : Program} {w : World} {K : PySem.W.Frag} {mg : Str → Option Value} {base : Heap} {Ts : List (Addr × Str)} {Ct Cs : Addr}
theorem sc_year_of : FnScope ["day_number", "guess"] ["day_number"] (defScope (top 31)) := ⟨rfl, rfl, rfl, by decide +kernel, rfl, by decide +kernel, by decide +kernel⟩
theorem has_year_of (C : Ctx P w K mg base Ts Ct Cs) : Has P w K mg base "year_of" 2 ["day_number"] (spF1 (fun n => Bx (10 ^ 12) n) fun n => .int (yearOf n)) := by
  refine has_of C.t.d_year_of sc_year_of (fun vs H Q E h => by obtain ⟨a, rfl, _⟩ := h; rfl) (fun _ _ _ _ _ _ us hl => match us, hl with | [_], _ => rfl) fun f cdv A outer s H vs Q E hr h => ⟨_, (pss_cons (ps_set (i := 1) sc_year_of.nd rfl (Or.inl rfl) (pe_op op_add (pe_op op_fdivW (pe_op op_mulW (pv 0) pe_int) (pe_gi C.t.DAYS_IN_400_YEARS)) pe_int)) (pss_cons (ps_if (pt_cmpR op_lt (pv 0) (pe_h (has_days_before_year C) (hr.mono (by decide)) rfl (pa_cons (pe_op op_add (pv 1) pe_int) pa_nil)) (nomark _)) (pss_one (ps_ret (pv 1))) pss_nil) (pss_one (ps_ret (pe_op op_add (pv 1) pe_int))))), ?_⟩
  obtain ⟨n, rfl, ⟨n0, n1⟩, q⟩ := h
  have q : Q (.int (if n < dby (n * 400 / 146097 + 1 + 1) then n * 400 / 146097 + 1 else n * 400 / 146097 + 1 + 1)) H := q
  walk_at "rx"
  refine rd_f1 ⟨by omega, by omega⟩ ?_
  walk_at "rx"
  refine rd_d (fun c => ?_) (fun c => ?_)
  · rw [if_pos c] at q
    walk_at "rx"
    exact q
  · rw [if_neg c] at q
    walk_at "rx"
    exact q
theorem sc_date_of : FnScope ["t", "days", "second", "day_number", "year", "month", "left"] ["t"] (defScope (top 32)) := ⟨rfl, rfl, rfl, by decide +kernel, rfl, by decide +kernel, by decide +kernel⟩
def dlist (d : Int × Int × Int × Int) : List Int := [d.1, d.2.1, d.2.2.1, d.2.2.2]
def spDateOf (Ts : List (Addr × Str)) : Sp := fun vs H Q _ => ∃ t : Int, vs = [.int t] ∧ Bx 10000000000 t ∧ Tabs Ts H ∧ RetI Ts H Q (dlist (Dz01.dateOf t))
theorem has_date_of (C : Ctx P w K mg base Ts Ct Cs) : Has P w K mg base "date_of" 3 ["t"] (spDateOf Ts) := by
  refine has_of C.t.d_date_of sc_date_of (fun vs H Q E h => by obtain ⟨a, rfl, _⟩ := h; rfl) (fun _ _ _ _ _ _ us hl => match us, hl with | [_], _ => rfl) fun f cdv A outer s H vs Q E hr h => ⟨_, (pss_cons (ps_asg (pe_callB call_divmod (by rfl) C.t.divmod_ (by decide +kernel) (pa_cons (pe_op op_add (pv 0) (pe_gi C.t.NOON)) (pa_cons (pe_gi C.t.DAY) pa_nil))) (pg_tup rfl (pgs_cons (pg_name (i := 1) sc_date_of.nd rfl (Or.inl rfl)) (pgs_cons (pg_name (i := 2) sc_date_of.nd rfl (Or.inl rfl)) pgs_nil)))) (pss_cons (ps_set (i := 3) sc_date_of.nd rfl (Or.inl rfl) (pe_op op_add (pv 1) (pe_h (has_days_before_year C) (hr.mono (by decide)) rfl (pa_cons (pe_gi C.t.START_YEAR) pa_nil)))) (pss_cons (ps_set (i := 4) sc_date_of.nd rfl (Or.inl rfl) (pe_h (has_year_of C) (hr.mono (by decide)) rfl (pa_cons (pv 3) pa_nil))) (pss_cons (ps_set (i := 5) sc_date_of.nd rfl (Or.inl rfl) pe_int) (pss_cons (ps_set (i := 6) sc_date_of.nd rfl (Or.inl rfl) (pe_op op_sub (pv 3) (pe_h (has_days_before_year C) (hr.mono (by decide)) rfl (pa_cons (pv 4) pa_nil)))) (pss_cons (ps_while PassesOwn.never (pt_cmpR op_ge (pv 6) (pe_h (has_month_length C) (hr.mono (by decide)) rfl (pa_cons (pv 4) (pa_cons (pv 5) pa_nil))) (nomark _)) (pss_cons (ps_aug (i := 6) sc_date_of.nd rfl (Or.inl rfl) (pe_h (has_month_length C) (hr.mono (by decide)) rfl (pa_cons (pv 4) (pa_cons (pv 5) pa_nil))) ip_sub) (pss_one (ps_aug (i := 5) sc_date_of.nd rfl (Or.inl rfl) pe_int ip_add)))) (pss_one (ps_ret (pe_lst (pa_cons (pv 4) (pa_cons (pv 5) (pa_cons (pe_op op_add (pv 6) pe_int) (pa_cons (pv 2) pa_nil))))))))))))), ?_⟩
  obtain ⟨t, rfl, ⟨t0, t1⟩, tb, q⟩ := h
  walk_at "rx"
  have hc : CDiv (t + 43200) 86400 := ⟨by decide, by decide⟩
  refine ⟨hc, fun p hp => ?_⟩
  walk_at "rx"
  refine rd_unp2 (SqT.of upd_same) ?_
  walk_at "rx"
  refine rd_f1 ⟨by decide, by decide⟩ ?_
  walk_at "rx"
  have e0 : dby 2000 = 730119 := rfl
  rw [e0]
  have ed1 : -115741 ≤ (t + 43200) / 86400 := by omega
  have ed2 : (t + 43200) / 86400 ≤ 115742 := by omega
  have yi := yearOf_is ((t + 43200) / 86400 + 730119)
  have yl := leap_days (yearOf ((t + 43200) / 86400 + 730119))
  have yb : 0 ≤ yearOf ((t + 43200) / 86400 + 730119) ∧ yearOf ((t + 43200) / 86400 + 730119) ≤ 5000 := by
    unfold yearOf
    split <;> omega
  have hspec : ∀ m : Int, 1 ≤ m → m ≤ 12 → ∀ n, n = (t + 43200) / 86400 + 730119 - dby (yearOf ((t + 43200) / 86400 + 730119)) → _ → _ → _ := fun m h3 h4 => date_spec t0 t1 h3 h4
  refine rd_f1 ⟨by omega, by omega⟩ ?_
  generalize (t + 43200) / 86400 = days at *
  generalize (t + 43200) % 86400 = sec at *
  walk_at "rx"
  generalize yearOf (days + 730119) = y at *
  refine rd_f1 ⟨by omega, by omega⟩ ?_
  walk_at "rx"
  refine ⟨fun m σ H' => H' = upd H p (.tup [.int days, .int sec]) ∧ ∃ (mo lf : Int), σ = [some (.int t), some (.int days), some (.int sec), some (.int (days + 730119)), some (.int y), some (.int mo), some (.int lf)] ∧ 1 ≤ mo ∧ mo ≤ 12 ∧ lf = days + 730119 - dby y - Dz01.daysBeforeMonth y mo ∧ 0 ≤ lf ∧ (m : Int) = 13 - mo,
    ⟨12, rfl, 1, days + 730119 - dby y, rfl, by decide, by decide, ?_, by omega, by decide⟩, ?_⟩
  · have e1 : Dz01.daysBeforeMonth y 1 = 0 := rfl
    rw [e1]
    omega
  rintro m σ H' ⟨rfl, mo, lf, rfl, m1, m2, elf, l0, em⟩
  walk_at "rx"
  refine rd_f2 ⟨m1, m2⟩ ?_
  walk_at "rx"
  have st := dbml_step (Dz01.isLeap y) m1
  have d13 := dbml_13 (Dz01.isLeap y)
  rw [← dbml_eq, ← dbml_eq, ← mdl_eq] at st
  refine rd_d (fun c => ?_) (fun c => ?_)
  · have hmo : mo ≠ 12 := fun z => by
      subst z
      have st' : Dz01.daysBeforeMonth y 13 = Dz01.daysBeforeMonth y 12 + Dz01.monthDays y 12 := st
      rw [dbml_eq y 13, d13] at st'
      omega
    refine ⟨fun σ H' => H' = upd H p (.tup [.int days, .int sec]) ∧ ∃ (mo' lf : Int), σ = [some (.int t), some (.int days), some (.int sec), some (.int (days + 730119)), some (.int y), some (.int mo'), some (.int lf)] ∧ 1 ≤ mo' ∧ mo' ≤ 12 ∧ lf = days + 730119 - dby y - Dz01.daysBeforeMonth y mo' ∧ 0 ≤ lf ∧ mo' = mo + 1,
      fun σ H' ⟨h1, mo', lf', h2, h3, h4, h5, h6, h7⟩ => ⟨m - 1, by omega, h1, mo', lf', h2, h3, h4, h5, h6, by omega⟩, ?_⟩
    walk_at "rx"
    refine rd_f2 ⟨m1, m2⟩ ?_
    walk_at "rx"
    refine ⟨rfl, mo + 1, lf - Dz01.monthDays y mo, rfl, by omega, by omega, by omega, by omega, rfl⟩
  · walk_at "rx"
    have hd := hspec mo m1 m2 (days + 730119 - dby y) rfl (by omega) (by omega)
    refine ⟨by show 4 ≤ sizeLine; decide, q.lst (Up.new tb hp) ?_⟩
    rw [hd, elf]
    rfl
theorem sc_is_date : FnScope ["year", "month", "day", "second"] ["year", "month", "day", "second"] (defScope (top 33)) := ⟨rfl, rfl, rfl, by decide +kernel, rfl, by decide +kernel, by decide +kernel⟩
def isDate (y m d x : Int) : Bool := !decide (y < 1700 ∨ 2300 < y ∨ m < 1 ∨ 12 < m ∨ d < 1 ∨ Dz01.monthDays y m < d ∨ x < 0 ∨ 86400 ≤ x)
theorem has_is_date (C : Ctx P w K mg base Ts Ct Cs) : Has P w K mg base "is_date" 3 ["year", "month", "day", "second"] (spF4 (fun _ _ _ _ => True) fun y m d x => .bl (isDate y m d x)) := by
  obtain ⟨aML, g_MONTH_LENGTHS, kML⟩ := C.t.MONTH_LENGTHS
  refine has_of C.t.d_is_date sc_is_date (fun vs H Q E h => by obtain ⟨a, b, c, d, rfl, _⟩ := h; rfl) (fun _ _ _ _ _ _ us hl => match us, hl with | [_, _, _, _], _ => rfl) fun f cdv A outer s H vs Q E hr h => ⟨_, (pss_cons (ps_if (pt_not (pt_chain op_le op_le (pe_gi C.t.FIRST_YEAR) (pv 0) (pe_gi C.t.LAST_YEAR))) (pss_one (ps_ret pe_bl)) pss_nil) (pss_cons (ps_if (pt_not (pt_chain op_le op_le pe_int (pv 1) (pe_callB call_len_seq (by rfl) C.t.len_ (by decide +kernel) (pa_cons (pe_gl g_MONTH_LENGTHS) pa_nil)))) (pss_one (ps_ret pe_bl)) pss_nil) (pss_one (ps_ret (pe_and (pe_chain op_le op_le pe_int (pv 2) (pe_h (has_month_length C) (hr.mono (by decide)) rfl (pa_cons (pv 0) (pa_cons (pv 1) pa_nil)))) (pe_one (pe_chain op_le op_lt pe_int (pv 3) (pe_gi C.t.DAY)))))))), ?_⟩
  obtain ⟨y, m, d, x, rfl, _, q⟩ := h
  have q : Q (.bl (isDate y m d x)) H := q
  walk_at "rz"
  refine rd_nb (fun c => ?_) (fun c => ?_)
  · have c' := and_f c
    have e : isDate y m d x = false := by
      unfold isDate
      rw [decide_eq_true (by omega)]
      rfl
    rw [e] at q
    walk_at "rz"
    exact q
  have y' := and_t c
  walk_at "rz"
  refine rd_chain2 (p := fun i j => decide (i ≤ j)) (p' := fun i j => decide (i ≤ j)) (a := 1) (b := m) (c := 12) (fun Q1 q1 => q1) (fun Q1 q1 => ?_) (fun Q1 q1 => ?_) ?_
  · walk_at "rz"
    exact q1
  · walk_at "rz"
    exact ⟨aML, _, rfl, .inr (kML.sq H), q1⟩
  walk_at "rz"
  refine rd_nb (fun c => ?_) (fun c => ?_)
  · have c' := and_f c
    have e : isDate y m d x = false := by
      unfold isDate
      rw [decide_eq_true (by omega)]
      rfl
    rw [e] at q
    walk_at "rz"
    exact q
  have m' := and_t c
  walk_at "rx"
  refine rd_andV2 (b1 := decide (1 ≤ d) && decide (d ≤ Dz01.monthDays y m)) (b2 := decide (0 ≤ x) && decide (x < 86400)) (fun Q1 q1 => ?_) (fun Q1 q1 => ?_) ?_
  · refine rd_chain2 (p := fun i j => decide (i ≤ j)) (p' := fun i j => decide (i ≤ j)) (a := 1) (b := d) (c := Dz01.monthDays y m) (fun Q2 q2 => q2) (fun Q2 q2 => ?_) (fun Q2 q2 => ?_) q1
    · walk_at "rz"
      exact q2
    · walk_at "rz"
      exact rd_f2 m' q2
  · walk_at "rz"
    exact q1
  have e : isDate y m d x = ((decide (1 ≤ d) && decide (d ≤ Dz01.monthDays y m)) && (decide (0 ≤ x) && decide (x < 86400))) := by
    unfold isDate
    by_cases h : 1 ≤ d ∧ d ≤ Dz01.monthDays y m ∧ 0 ≤ x ∧ x < 86400
    · obtain ⟨h1, h2, h3, h4⟩ := h
      rw [decide_eq_true h1, decide_eq_true h2, decide_eq_true h3, decide_eq_true h4, decide_eq_false (by omega)]
      rfl
    · rw [decide_eq_true (by omega)]
      by_cases h1 : 1 ≤ d
      · by_cases h2 : d ≤ Dz01.monthDays y m
        · by_cases h3 : 0 ≤ x
          · rw [decide_eq_false (show ¬ x < 86400 by omega)]
            simp
          · rw [decide_eq_false h3]
            simp
        · rw [decide_eq_false h2]
          simp
      · rw [decide_eq_false h1]
        simp
  rw [e] at q
  exact q
theorem sc_moment_of : FnScope ["year", "month", "day", "second", "day_number"] ["year", "month", "day", "second"] (defScope (top 34)) := ⟨rfl, rfl, rfl, by decide +kernel, rfl, by decide +kernel, by decide +kernel⟩
def spMo (Ts : List (Addr × Str)) : Sp := fun vs H Q _ => ∃ y m d x : Int, vs = [.int y, .int m, .int d, .int x] ∧ isDate y m d x = true ∧ Tabs Ts H ∧ ∀ H', Up Ts H H' → Q (.int (Dz01.momentOf y m d x)) H'
theorem isDate_t {y m d x : Int} (h : isDate y m d x = true) : 1700 ≤ y ∧ y ≤ 2300 ∧ 1 ≤ m ∧ m ≤ 12 ∧ 1 ≤ d ∧ d ≤ Dz01.monthDays y m ∧ 0 ≤ x ∧ x < 86400 := by
  unfold isDate at h
  rw [Bool.not_eq_true'] at h
  have h2 := of_decide_eq_false h
  omega
theorem has_moment_of (C : Ctx P w K mg base Ts Ct Cs) : Has P w K mg base "moment_of" 4 ["year", "month", "day", "second"] (spMo Ts) := by
  refine has_of C.t.d_moment_of sc_moment_of (fun vs H Q E h => by obtain ⟨a, b, c, d, rfl, _⟩ := h; rfl) (fun _ _ _ _ _ _ us hl => match us, hl with | [_, _, _, _], _ => rfl) fun f cdv A outer s H vs Q E hr h => ⟨_, (pss_cons (ps_set (i := 4) sc_moment_of.nd rfl (Or.inl rfl) (pe_op op_sub (pe_op op_add (pe_op op_add (pe_h (has_days_before_year C) (hr.mono (by decide)) rfl (pa_cons (pv 0) pa_nil)) (pe_h (has_days_before_month C) (hr.mono (by decide)) rfl (pa_cons (pv 0) (pa_cons (pv 1) pa_nil)))) (pv 2)) pe_int)) (pss_one (ps_ret (pe_op op_sub (pe_op op_add (pe_op op_mulW (pe_op op_sub (pv 4) (pe_h (has_days_before_year C) (hr.mono (by decide)) rfl (pa_cons (pe_gi C.t.START_YEAR) pa_nil))) (pe_gi C.t.DAY)) (pv 3)) (pe_gi C.t.NOON))))), ?_⟩
  obtain ⟨y, m, d, x, rfl, hd, t, q⟩ := h
  obtain ⟨y1, y2, m1, m2, d1, d2, x1, x2⟩ := isDate_t hd
  walk_at "rx"
  refine rd_f1 ⟨by omega, by omega⟩ ?_
  walk_at "rx"
  refine rd_g2 ⟨m1, m2⟩ t fun H1 u => ?_
  have b0 : dby 2000 = 730119 := rfl
  have b1 : -10000000 ≤ dby y ∧ dby y ≤ 10000000 := by
    unfold dby
    omega
  have b2 := dbml_mono (Dz01.isLeap y) (m - 1).toNat (m := 1) (by decide)
  have b3 := dbml_mono (Dz01.isLeap y) (13 - m).toNat (m := m) m1
  have b4 := dbml_13 (Dz01.isLeap y)
  have e5 : 1 + ((m - 1).toNat : Int) = m := by omega
  have e6 : m + ((13 - m).toNat : Int) = 13 := by omega
  rw [e5] at b2
  rw [e6, b4] at b3
  have b5 : dbml (Dz01.isLeap y) 1 = 0 := rfl
  have b6 : (if Dz01.isLeap y = true then (366 : Int) else 365) ≤ 366 := by split <;> omega
  have b7 := mdl_pos (Dz01.isLeap y) m
  rw [← mdl_eq] at b7
  rw [b5] at b2
  rw [← dbml_eq] at b2 b3
  have b8 : Dz01.daysBeforeMonth y m ≤ 366 := Int.le_trans b3 b6
  clear b3 b6
  walk_at "rx"
  refine rd_f1 ⟨by omega, by omega⟩ ?_
  rw [b0]
  walk_at "rx"
  have e : (dby y + Dz01.daysBeforeMonth y m + d - 1 - 730119) * 86400 + x - 43200 = Dz01.momentOf y m d x := by
    rw [dby_eq]
    show _ = (Dz01.daysBeforeYear y + Dz01.daysBeforeMonth y m + d - 1) * 86400 + x - 43200
    omega
  rw [e]
  exact q H1 u
theorem sc_is_moment : FnScope ["t"] ["t"] (defScope (top 45)) := ⟨rfl, rfl, rfl, by decide +kernel, rfl, by decide +kernel, by decide +kernel⟩
theorem has_is_moment (C : Ctx P w K mg base Ts Ct Cs) : Has P w K mg base "is_moment" 1 ["t"] (spF1 (fun _ => True) fun t => .bl (Dz01.timeOkay t)) := by
  refine has_of C.t.d_is_moment sc_is_moment (fun vs H Q E h => by obtain ⟨a, rfl, _⟩ := h; rfl) (fun _ _ _ _ _ _ us hl => match us, hl with | [_], _ => rfl) fun f cdv A outer s H vs Q E hr h => ⟨_, (pss_one (ps_ret (pe_chain op_le op_le (pe_un un_neg (pe_gi C.t.LAST_MOMENT)) (pv 0) (pe_gi C.t.LAST_MOMENT)))), ?_⟩
  obtain ⟨t, rfl, _, q⟩ := h
  walk_at "rz"
  exact q
theorem sc_sidereal_time : FnScope ["t"] ["t"] (defScope (top 46)) := ⟨rfl, rfl, rfl, by decide +kernel, rfl, by decide +kernel, by decide +kernel⟩
theorem has_sidereal_time (C : Ctx P w K mg base Ts Ct Cs) : Has P w K mg base "sidereal_time" 1 ["t"] (spF1 (fun t => Bx 10000000000 t) fun t => .int (Dz01.siderealTime t)) := by
  refine has_of C.t.d_sidereal_time sc_sidereal_time (fun vs H Q E h => by obtain ⟨a, rfl, _⟩ := h; rfl) (fun _ _ _ _ _ _ us hl => match us, hl with | [_], _ => rfl) fun f cdv A outer s H vs Q E hr h => ⟨_, (pss_one (ps_ret (pe_op op_mod (pe_op op_add (pe_gi C.t.SIDEREAL_START) (pe_op op_fdivW (pe_op op_mulW (pv 0) (pe_gi C.t.SIDEREAL_GAIN)) (pe_gi C.t.SIDEREAL_SPAN))) (pe_gi C.t.TURN)))), ?_⟩
  obtain ⟨t, rfl, ⟨t0, t1⟩, q⟩ := h
  walk_at "rz"
  exact q
theorem time_t {t : Int} (h : Dz01.timeOkay t = true) : Bx 10000000000 t := and_t h
theorem sc_date_answer : FnScope ["t"] ["t"] (defScope (top 48)) := ⟨rfl, rfl, rfl, by decide +kernel, rfl, by decide +kernel, by decide +kernel⟩
/-- an answer as a list of ints -/
def spA1 (Ts : List (Addr × Str)) (f : Int → List Int) : Sp := fun vs H Q _ => ∃ t : Int, vs = [.int t] ∧ Tabs Ts H ∧ RetI Ts H Q (f t)
def dateAns (t : Int) : List Int := if Dz01.timeOkay t = false then [-2] else dlist (Dz01.dateOf t)
theorem has_date_answer (C : Ctx P w K mg base Ts Ct Cs) : Has P w K mg base "date_answer" 4 ["t"] (spA1 Ts dateAns) := by
  refine has_of C.t.d_date_answer sc_date_answer (fun vs H Q E h => by obtain ⟨a, rfl, _⟩ := h; rfl) (fun _ _ _ _ _ _ us hl => match us, hl with | [_], _ => rfl) fun f cdv A outer s H vs Q E hr h => ⟨_, (pss_cons (ps_if (pt_not (pt_val (pe_h (has_is_moment C) (hr.mono (by decide)) rfl (pa_cons (pv 0) pa_nil)))) (pss_one (ps_ret (pe_lst (pa_cons (pe_un un_neg (pe_gi C.t.OUT_OF_RANGE)) pa_nil)))) pss_nil) (pss_one (ps_ret (pe_h (has_date_of C) (hr.mono (by decide)) rfl (pa_cons (pv 0) pa_nil))))), ?_⟩
  obtain ⟨t, rfl, tb, q⟩ := h
  walk_at "rx"
  refine rd_f1 trivial ?_
  walk_at "rx"
  refine rd_nb (fun c => ?_) (fun c => ?_)
  · walk_at "rx"
    refine ⟨by show 1 ≤ sizeLine; decide, q.lst (Up.refl tb) ?_⟩
    unfold dateAns
    rw [if_pos c]
    rfl
  · walk_at "rx"
    refine ⟨t, rfl, time_t c, tb, ?_⟩
    unfold dateAns at q
    rw [if_neg (by rw [c]; decide)] at q
    exact q
theorem sc_moment_answer : FnScope ["year", "month", "day", "second"] ["year", "month", "day", "second"] (defScope (top 49)) := ⟨rfl, rfl, rfl, by decide +kernel, rfl, by decide +kernel, by decide +kernel⟩
def spA4 (Ts : List (Addr × Str)) (f : Int → Int → Int → Int → List Int) : Sp := fun vs H Q _ => ∃ y m d x : Int, vs = [.int y, .int m, .int d, .int x] ∧ Tabs Ts H ∧ RetI Ts H Q (f y m d x)
def momAns (y m d x : Int) : List Int := if isDate y m d x = false then [-2] else [0, Dz01.momentOf y m d x]
theorem has_moment_answer (C : Ctx P w K mg base Ts Ct Cs) : Has P w K mg base "moment_answer" 5 ["year", "month", "day", "second"] (spA4 Ts momAns) := by
  refine has_of C.t.d_moment_answer sc_moment_answer (fun vs H Q E h => by obtain ⟨a, b, c, d, rfl, _⟩ := h; rfl) (fun _ _ _ _ _ _ us hl => match us, hl with | [_, _, _, _], _ => rfl) fun f cdv A outer s H vs Q E hr h => ⟨_, (pss_cons (ps_if (pt_not (pt_val (pe_h (has_is_date C) (hr.mono (by decide)) rfl (pa_cons (pv 0) (pa_cons (pv 1) (pa_cons (pv 2) (pa_cons (pv 3) pa_nil))))))) (pss_one (ps_ret (pe_lst (pa_cons (pe_un un_neg (pe_gi C.t.OUT_OF_RANGE)) pa_nil)))) pss_nil) (pss_one (ps_ret (pe_lst (pa_cons pe_int (pa_cons (pe_h (has_moment_of C) (hr.mono (by decide)) rfl (pa_cons (pv 0) (pa_cons (pv 1) (pa_cons (pv 2) (pa_cons (pv 3) pa_nil))))) pa_nil)))))), ?_⟩
  obtain ⟨y, m, d, x, rfl, tb, q⟩ := h
  walk_at "rx"
  refine rd_f4 trivial ?_
  walk_at "rx"
  refine rd_nb (fun c => ?_) (fun c => ?_)
  · walk_at "rx"
    refine ⟨by show 1 ≤ sizeLine; decide, q.lst (Up.refl tb) ?_⟩
    unfold momAns
    rw [if_pos c]
    rfl
  · walk_at "rx"
    refine ⟨y, m, d, x, rfl, c, tb, fun H1 u => ?_⟩
    walk_at "rx"
    refine ⟨by show 2 ≤ sizeLine; decide, q.lst u ?_⟩
    unfold momAns
    rw [if_neg (by rw [c]; decide)]
    rfl
theorem sc_sidereal_answer : FnScope ["t"] ["t"] (defScope (top 50)) := ⟨rfl, rfl, rfl, by decide +kernel, rfl, by decide +kernel, by decide +kernel⟩
def sidAns (t : Int) : List Int := if Dz01.timeOkay t = false then [-2] else [Dz01.siderealTime t]
theorem has_sidereal_answer (C : Ctx P w K mg base Ts Ct Cs) : Has P w K mg base "sidereal_answer" 2 ["t"] (spA1 Ts sidAns) := by
  refine has_of C.t.d_sidereal_answer sc_sidereal_answer (fun vs H Q E h => by obtain ⟨a, rfl, _⟩ := h; rfl) (fun _ _ _ _ _ _ us hl => match us, hl with | [_], _ => rfl) fun f cdv A outer s H vs Q E hr h => ⟨_, (pss_cons (ps_if (pt_not (pt_val (pe_h (has_is_moment C) (hr.mono (by decide)) rfl (pa_cons (pv 0) pa_nil)))) (pss_one (ps_ret (pe_lst (pa_cons (pe_un un_neg (pe_gi C.t.OUT_OF_RANGE)) pa_nil)))) pss_nil) (pss_one (ps_ret (pe_lst (pa_cons (pe_h (has_sidereal_time C) (hr.mono (by decide)) rfl (pa_cons (pv 0) pa_nil)) pa_nil))))), ?_⟩
  obtain ⟨t, rfl, tb, q⟩ := h
  walk_at "rx"
  refine rd_f1 trivial ?_
  walk_at "rx"
  refine rd_nb (fun c => ?_) (fun c => ?_)
  · walk_at "rx"
    refine ⟨by show 1 ≤ sizeLine; decide, q.lst (Up.refl tb) ?_⟩
    unfold sidAns
    rw [if_pos c]
    rfl
  · walk_at "rx"
    refine rd_f1 (time_t c) ?_
    walk_at "rx"
    refine ⟨by show 1 ≤ sizeLine; decide, q.lst (Up.refl tb) ?_⟩
    unfold sidAns
    rw [if_neg (by rw [c]; decide)]
    rfl
theorem sc_sines_answer : FnScope ["a"] ["a"] (defScope (top 51)) := ⟨rfl, rfl, rfl, by decide +kernel, rfl, by decide +kernel, by decide +kernel⟩
def sinAns (a : Int) : List Int := [0, Dz01.sin a, Dz01.cos a]
theorem has_sines_answer (C : Ctx P w K mg base Ts Ct Cs) : Has P w K mg base "sines_answer" 6 ["a"] (spA1 Ts sinAns) := by
  refine has_of C.t.d_sines_answer sc_sines_answer (fun vs H Q E h => by obtain ⟨a, rfl, _⟩ := h; rfl) (fun _ _ _ _ _ _ us hl => match us, hl with | [_], _ => rfl) fun f cdv A outer s H vs Q E hr h => ⟨_, (pss_one (ps_ret (pe_lst (pa_cons pe_int (pa_cons (pe_h (has_sine C) (hr.mono (by decide)) rfl (pa_cons (pv 0) pa_nil)) (pa_cons (pe_h (has_cosine C) (hr.mono (by decide)) rfl (pa_cons (pv 0) pa_nil)) pa_nil)))))), ?_⟩
  obtain ⟨a, rfl, tb, q⟩ := h
  walk_at "rx"
  refine rd_f1 trivial ?_
  walk_at "rx"
  refine rd_f1 trivial ?_
  walk_at "rx"
  exact ⟨by show 3 ≤ sizeLine; decide, q.lst (Up.refl tb) rfl⟩
theorem sc_angles_answer : FnScope ["x", "y"] ["x", "y"] (defScope (top 52)) := ⟨rfl, rfl, rfl, by decide +kernel, rfl, by decide +kernel, by decide +kernel⟩
def spA2 (Ts : List (Addr × Str)) (f : Int → Int → List Int) : Sp := fun vs H Q _ => ∃ x y : Int, vs = [.int x, .int y] ∧ Tabs Ts H ∧ RetI Ts H Q (f x y)
def angAns (x y : Int) : List Int := if Dz01.ONE < (x.natAbs : Int) ∨ Dz01.ONE < (y.natAbs : Int) then [-2] else [Dz01.direction x y, Dz01.arcsin y]
theorem has_angles_answer (C : Ctx P w K mg base Ts Ct Cs) : Has P w K mg base "angles_answer" 10 ["x", "y"] (spA2 Ts angAns) := by
  refine has_of C.t.d_angles_answer sc_angles_answer (fun vs H Q E h => by obtain ⟨a, b, rfl, _⟩ := h; rfl) (fun _ _ _ _ _ _ us hl => match us, hl with | [_, _], _ => rfl) fun f cdv A outer s H vs Q E hr h => ⟨_, (pss_cons (ps_if (pt_not (PW.pt (pw_and (pt_chain op_le op_le (pe_un un_neg (pe_gi C.t.ONE)) (pv 0) (pe_gi C.t.ONE)) (pw_and1 (pt_chain op_le op_le (pe_un un_neg (pe_gi C.t.ONE)) (pv 1) (pe_gi C.t.ONE)))))) (pss_one (ps_ret (pe_lst (pa_cons (pe_un un_neg (pe_gi C.t.OUT_OF_RANGE)) pa_nil)))) pss_nil) (pss_one (ps_ret (pe_lst (pa_cons (pe_h (has_direction C) (hr.mono (by decide)) rfl (pa_cons (pv 0) (pa_cons (pv 1) pa_nil))) (pa_cons (pe_h (has_arcsin C) (hr.mono (by decide)) rfl (pa_cons (pv 1) pa_nil)) pa_nil)))))), ?_⟩
  obtain ⟨x, y, rfl, tb, q⟩ := h
  have eo : Dz01.ONE = 1000000000000000000 := rfl
  walk_at "rx"
  refine rd_and2 (b1 := decide (-1000000000000000000 ≤ x) && decide (x ≤ 1000000000000000000)) (b2 := decide (-1000000000000000000 ≤ y) && decide (y ≤ 1000000000000000000)) (fun Q1 q1 => ?_) (fun Q1 q1 => ?_) ?_
  · walk_at "rz"
    exact q1
  · walk_at "rz"
    exact q1
  refine rd_nb (fun c => ?_) (fun c => ?_)
  · walk_at "rx"
    refine ⟨by show 1 ≤ sizeLine; decide, q.lst (Up.refl tb) ?_⟩
    unfold angAns
    have c2 : ¬ ((-1000000000000000000 ≤ x ∧ x ≤ 1000000000000000000) ∧ (-1000000000000000000 ≤ y ∧ y ≤ 1000000000000000000)) := fun z => by
      rw [decide_eq_true z.1.1, decide_eq_true z.1.2, decide_eq_true z.2.1, decide_eq_true z.2.2] at c
      cases c
    rw [if_pos (by rw [eo]; omega)]
    rfl
  · rw [Bool.and_eq_true] at c
    have cx := and_t c.1
    have cy := and_t c.2
    walk_at "rx"
    refine rd_g2 ⟨⟨by omega, by omega⟩, ⟨by omega, by omega⟩⟩ tb fun H1 u => ?_
    walk_at "rx"
    refine rd_g1 trivial u.2 fun H2 u2 => ?_
    walk_at "rx"
    refine ⟨by show 2 ≤ sizeLine; decide, q.lst (u.trans u2) ?_⟩
    unfold angAns
    rw [if_neg (by rw [eo]; omega)]
    rfl
end
section
variable {P : Program} {w : World} {K : PySem.W.Frag} {mg : Str → Option Value} {base : Heap} {Ts : List (Addr × Str)} {Ct Cs : Addr}
/-! ### vectors -/
def vt (v : Dz01.Vec) : List V := [.int v.x, .int v.y, .int v.z]
def VB (M : Int) (v : Dz01.Vec) : Prop := Bx M v.x ∧ Bx M v.y ∧ Bx M v.z
/-- a vector as a tuple that is kept -/
def RetV (Ts : List (Addr × Str)) (H : Hp) (Q : VK) (v : Dz01.Vec) : Prop := ∀ H' p, Up Ts H H' → H' p = some (.tup (vt v)) → Q (.ref p) H'
theorem RetV.tup {Ts : List (Addr × Str)} {H H1 : Hp} {Q : VK} {v : Dz01.Vec} {xs : List V} (r : RetV Ts H Q v) (u : Up Ts H H1) (e : xs = vt v) : ∀ p, H1 p = none → Q (.ref p) (upd H1 p (.tup xs)) := fun p hp =>
  r _ p (u.new2 hp) (by rw [upd_same, e])
theorem VB.mono {M N : Int} {v : Dz01.Vec} (h : VB M v) (l : M ≤ N) : VB N v := by
  obtain ⟨⟨a, b⟩, ⟨c, d⟩, e, f⟩ := h
  exact ⟨⟨by omega, by omega⟩, ⟨by omega, by omega⟩, by omega, by omega⟩
def BIG : Int := 10 ^ 36
theorem sc_bd (a : Int) : Bx 1000000000000000000 (Dz01.sin a) ∧ Bx 1000000000000000000 (Dz01.cos a) := by
  obtain ⟨s0, s1⟩ := sin_bd a
  obtain ⟨c0, c1⟩ := cos_bd a
  exact ⟨⟨s0, s1⟩, c0, c1⟩
theorem mul_bx {M N x y : Int} (hx : Bx M x) (hy : Bx N y) (m : 0 ≤ M) (n : 0 ≤ N) : Bx (M * N) (x * y) := by
  obtain ⟨a, b⟩ := hx
  obtain ⟨c, d⟩ := hy
  have h1 : 0 ≤ (M - x) * (N + y) := Int.mul_nonneg (by omega) (by omega)
  have h2 : 0 ≤ (M + x) * (N - y) := Int.mul_nonneg (by omega) (by omega)
  have h3 : 0 ≤ (M - x) * (N - y) := Int.mul_nonneg (by omega) (by omega)
  have h4 : 0 ≤ (M + x) * (N + y) := Int.mul_nonneg (by omega) (by omega)
  rw [Int.sub_mul, Int.mul_add, Int.mul_add] at h1
  rw [Int.add_mul, Int.mul_sub, Int.mul_sub] at h2
  rw [Int.sub_mul, Int.mul_sub, Int.mul_sub] at h3
  rw [Int.add_mul, Int.mul_add, Int.mul_add] at h4
  exact ⟨by omega, by omega⟩
theorem div_bx {M x : Int} (h : Bx (M * 1000000000000000000) x) : Bx M (x / 1000000000000000000) := by
  obtain ⟨a, b⟩ := h
  exact ⟨by omega, by omega⟩
theorem add_bx {M x y : Int} (h : Bx M x) (k : Bx M y) : Bx (2 * M) (x + y) := by
  obtain ⟨a, b⟩ := h
  obtain ⟨c, d⟩ := k
  exact ⟨by omega, by omega⟩
theorem sub_bx {M x y : Int} (h : Bx M x) (k : Bx M y) : Bx (2 * M) (x - y) := by
  obtain ⟨a, b⟩ := h
  obtain ⟨c, d⟩ := k
  exact ⟨by omega, by omega⟩
theorem vector_vb (lon lat : Int) : VB 1000000000000000000 (Dz01.vector lon lat) := by
  have a := mul_bx (sc_bd lat).2 (sc_bd lon).2 (by decide) (by decide)
  have b := mul_bx (sc_bd lat).2 (sc_bd lon).1 (by decide) (by decide)
  exact ⟨div_bx a, div_bx b, (sc_bd lat).1⟩
theorem rot_bx {M x y : Int} (a : Int) (hx : Bx M x) (hy : Bx M y) (m : 0 ≤ M) : Bx (2 * M) ((x * Dz01.cos a - y * Dz01.sin a) / 1000000000000000000) ∧ Bx (2 * M) ((x * Dz01.sin a + y * Dz01.cos a) / 1000000000000000000) ∧ Bx (2 * M) ((x * Dz01.cos a + y * Dz01.sin a) / 1000000000000000000) := by
  have h1 := mul_bx hx (sc_bd a).2 m (by decide)
  have h2 := mul_bx hx (sc_bd a).1 m (by decide)
  have h3 := mul_bx hy (sc_bd a).2 m (by decide)
  have h4 := mul_bx hy (sc_bd a).1 m (by decide)
  have q1 := sub_bx h1 h4
  have q2 := add_bx h2 h3
  have q3 := add_bx h1 h4
  rw [← Int.mul_assoc] at q1 q2 q3
  exact ⟨div_bx q1, div_bx q2, div_bx q3⟩
theorem bx2 {M x : Int} (h : Bx M x) (m : 0 ≤ M) : Bx (2 * M) x := by
  obtain ⟨a, b⟩ := h
  exact ⟨by omega, by omega⟩
theorem rotX_vb {M : Int} {v : Dz01.Vec} (a : Int) (h : VB M v) (m : 0 ≤ M) : VB (2 * M) (Dz01.rotateX a v) :=
  have q := rot_bx a h.2.1 h.2.2 m
  ⟨bx2 h.1 m, q.1, q.2.1⟩
theorem rotZ_vb {M : Int} {v : Dz01.Vec} (a : Int) (h : VB M v) (m : 0 ≤ M) : VB (2 * M) (Dz01.rotateZ a v) :=
  have q := rot_bx a h.1 h.2.1 m
  ⟨q.1, q.2.1, bx2 h.2.2 m⟩
theorem rotY_vb {M : Int} {v : Dz01.Vec} (a : Int) (h : VB M v) (m : 0 ≤ M) : VB (2 * M) (Dz01.rotateY a v) :=
  have q := rot_bx a h.1 h.2.2 m
  have q2 := rot_bx a h.2.2 h.1 m
  ⟨q.2.2, bx2 h.2.1 m, q2.1⟩
theorem sc_vector_at : FnScope ["longitude", "latitude", "x", "y"] ["longitude", "latitude"] (defScope (top 54)) := ⟨rfl, rfl, rfl, by decide +kernel, rfl, by decide +kernel, by decide +kernel⟩
def spVat (Ts : List (Addr × Str)) : Sp := fun vs H Q _ => ∃ lon lat : Int, vs = [.int lon, .int lat] ∧ Tabs Ts H ∧ RetV Ts H Q (Dz01.vector lon lat)
theorem has_vector_at (C : Ctx P w K mg base Ts Ct Cs) : Has P w K mg base "vector_at" 6 ["longitude", "latitude"] (spVat Ts) := by
  refine has_of C.t.d_vector_at sc_vector_at (fun vs H Q E h => by obtain ⟨a, b, rfl, _⟩ := h; rfl) (fun _ _ _ _ _ _ us hl => match us, hl with | [_, _], _ => rfl) fun f cdv A outer s H vs Q E hr h => ⟨_, (pss_cons (ps_set (i := 2) sc_vector_at.nd rfl (Or.inl rfl) (pe_op op_fdivW (pe_op op_mulW (pe_h (has_cosine C) (hr.mono (by decide)) rfl (pa_cons (pv 1) pa_nil)) (pe_h (has_cosine C) (hr.mono (by decide)) rfl (pa_cons (pv 0) pa_nil))) (pe_gi C.t.ONE))) (pss_cons (ps_set (i := 3) sc_vector_at.nd rfl (Or.inl rfl) (pe_op op_fdivW (pe_op op_mulW (pe_h (has_cosine C) (hr.mono (by decide)) rfl (pa_cons (pv 1) pa_nil)) (pe_h (has_sine C) (hr.mono (by decide)) rfl (pa_cons (pv 0) pa_nil))) (pe_gi C.t.ONE))) (pss_one (ps_ret (pe_tup (pa_cons (pv 2) (pa_cons (pv 3) (pa_cons (pe_h (has_sine C) (hr.mono (by decide)) rfl (pa_cons (pv 1) pa_nil)) pa_nil)))))))), ?_⟩
  obtain ⟨lon, lat, rfl, tb, q⟩ := h
  obtain ⟨⟨s0, s1⟩, c0, c1⟩ := sc_bd lon
  obtain ⟨⟨s2, s3⟩, c2, c3⟩ := sc_bd lat
  walk_at "rx"
  refine rd_f1 trivial ?_
  walk_at "rx"
  refine rd_f1 trivial ?_
  walk_at "rx"
  refine rd_f1 trivial ?_
  walk_at "rx"
  refine rd_f1 trivial ?_
  walk_at "rx"
  refine rd_f1 trivial ?_
  walk_at "rx"
  exact ⟨by show 3 ≤ sizeLine; decide, q.tup (Up.refl tb) rfl⟩
theorem sc_longitude_and_latitude : FnScope ["vector", "x", "y", "z"] ["vector"] (defScope (top 55)) := ⟨rfl, rfl, rfl, by decide +kernel, rfl, by decide +kernel, by decide +kernel⟩
def llist (v : Dz01.Vec) : List Int := [Dz01.direction v.x v.y, Dz01.arcsin v.z]
/-- the vector that an argument refers to -/
def VArg (M : Int) (H : Hp) (a : V) (v : Dz01.Vec) : Prop := ∃ p, a = .ref p ∧ H p = some (.tup (vt v)) ∧ VB M v
def spLL (Ts : List (Addr × Str)) : Sp := fun vs H Q _ => ∃ (a : V) (v : Dz01.Vec), vs = [a] ∧ VArg (10 ^ 36) H a v ∧ Tabs Ts H ∧ RetI Ts H Q (llist v)
theorem has_longitude_and_latitude (C : Ctx P w K mg base Ts Ct Cs) : Has P w K mg base "longitude_and_latitude" 10 ["vector"] (spLL Ts) := by
  refine has_of C.t.d_longitude_and_latitude sc_longitude_and_latitude (fun vs H Q E h => by obtain ⟨a, b, rfl, _⟩ := h; rfl) (fun _ _ _ _ _ _ us hl => match us, hl with | [_], _ => rfl) fun f cdv A outer s H vs Q E hr h => ⟨_, (pss_cons (ps_asg (pv 0) (pg_tup rfl (pgs_cons (pg_name (i := 1) sc_longitude_and_latitude.nd rfl (Or.inl rfl)) (pgs_cons (pg_name (i := 2) sc_longitude_and_latitude.nd rfl (Or.inl rfl)) (pgs_cons (pg_name (i := 3) sc_longitude_and_latitude.nd rfl (Or.inl rfl)) pgs_nil))))) (pss_one (ps_ret (pe_lst (pa_cons (pe_h (has_direction C) (hr.mono (by decide)) rfl (pa_cons (pv 1) (pa_cons (pv 2) pa_nil))) (pa_cons (pe_h (has_arcsin C) (hr.mono (by decide)) rfl (pa_cons (pv 3) pa_nil)) pa_nil)))))), ?_⟩
  obtain ⟨_, v, rfl, ⟨p, rfl, hp, ⟨x0, x1⟩, ⟨y0, y1⟩, z0, z1⟩, tb, q⟩ := h
  walk_at "rx"
  refine rd_unp3 (SqT.of hp) ?_
  walk_at "rx"
  refine rd_g2 ⟨⟨by omega, by omega⟩, ⟨by omega, by omega⟩⟩ tb fun H1 u => ?_
  walk_at "rx"
  refine rd_g1 trivial u.2 fun H2 u2 => ?_
  walk_at "rx"
  exact ⟨by show 2 ≤ sizeLine; decide, q.lst (u.trans u2) rfl⟩
def spRot (Ts : List (Addr × Str)) (f : Int → Dz01.Vec → Dz01.Vec) : Sp := fun vs H Q _ => ∃ (b : V) (v : Dz01.Vec) (a : Int), vs = [b, .int a] ∧ VArg (10 ^ 36) H b v ∧ Tabs Ts H ∧ RetV Ts H Q (f a v)
theorem sc_rotated_x : FnScope ["vector", "a", "x", "y", "z", "s", "c"] ["vector", "a"] (defScope (top 56)) := ⟨rfl, rfl, rfl, by decide +kernel, rfl, by decide +kernel, by decide +kernel⟩
theorem has_rotated_x (C : Ctx P w K mg base Ts Ct Cs) : Has P w K mg base "rotated_x" 6 ["vector", "a"] (spRot Ts Dz01.rotateX) := by
  refine has_of C.t.d_rotated_x sc_rotated_x (fun vs H Q E h => by obtain ⟨a, b, c, rfl, _⟩ := h; rfl) (fun _ _ _ _ _ _ us hl => match us, hl with | [_, _], _ => rfl) fun f cdv A outer s H vs Q E hr h => ⟨_, (pss_cons (ps_asg (pv 0) (pg_tup rfl (pgs_cons (pg_name (i := 2) sc_rotated_x.nd rfl (Or.inl rfl)) (pgs_cons (pg_name (i := 3) sc_rotated_x.nd rfl (Or.inl rfl)) (pgs_cons (pg_name (i := 4) sc_rotated_x.nd rfl (Or.inl rfl)) pgs_nil))))) (pss_cons (ps_set (i := 5) sc_rotated_x.nd rfl (Or.inl rfl) (pe_h (has_sine C) (hr.mono (by decide)) rfl (pa_cons (pv 1) pa_nil))) (pss_cons (ps_set (i := 6) sc_rotated_x.nd rfl (Or.inl rfl) (pe_h (has_cosine C) (hr.mono (by decide)) rfl (pa_cons (pv 1) pa_nil))) (pss_one (ps_ret (pe_tup (pa_cons (pv 2) (pa_cons (pe_op op_fdivW (pe_op op_sub (pe_op op_mulW (pv 3) (pv 6)) (pe_op op_mulW (pv 4) (pv 5))) (pe_gi C.t.ONE)) (pa_cons (pe_op op_fdivW (pe_op op_add (pe_op op_mulW (pv 3) (pv 5)) (pe_op op_mulW (pv 4) (pv 6))) (pe_gi C.t.ONE)) pa_nil))))))))), ?_⟩
  obtain ⟨_, v, a, rfl, ⟨p, rfl, hp, ⟨x0, x1⟩, ⟨y0, y1⟩, z0, z1⟩, tb, q⟩ := h
  obtain ⟨⟨s0, s1⟩, c0, c1⟩ := sc_bd a
  walk_at "rx"
  refine rd_unp3 (SqT.of hp) ?_
  walk_at "rx"
  refine rd_f1 trivial ?_
  walk_at "rx"
  refine rd_f1 trivial ?_
  walk_at "rx"
  exact ⟨by show 3 ≤ sizeLine; decide, q.tup (Up.refl tb) rfl⟩
theorem sc_rotated_y : FnScope ["vector", "a", "x", "y", "z", "s", "c"] ["vector", "a"] (defScope (top 57)) := ⟨rfl, rfl, rfl, by decide +kernel, rfl, by decide +kernel, by decide +kernel⟩
theorem has_rotated_y (C : Ctx P w K mg base Ts Ct Cs) : Has P w K mg base "rotated_y" 6 ["vector", "a"] (spRot Ts Dz01.rotateY) := by
  refine has_of C.t.d_rotated_y sc_rotated_y (fun vs H Q E h => by obtain ⟨a, b, c, rfl, _⟩ := h; rfl) (fun _ _ _ _ _ _ us hl => match us, hl with | [_, _], _ => rfl) fun f cdv A outer s H vs Q E hr h => ⟨_, (pss_cons (ps_asg (pv 0) (pg_tup rfl (pgs_cons (pg_name (i := 2) sc_rotated_y.nd rfl (Or.inl rfl)) (pgs_cons (pg_name (i := 3) sc_rotated_y.nd rfl (Or.inl rfl)) (pgs_cons (pg_name (i := 4) sc_rotated_y.nd rfl (Or.inl rfl)) pgs_nil))))) (pss_cons (ps_set (i := 5) sc_rotated_y.nd rfl (Or.inl rfl) (pe_h (has_sine C) (hr.mono (by decide)) rfl (pa_cons (pv 1) pa_nil))) (pss_cons (ps_set (i := 6) sc_rotated_y.nd rfl (Or.inl rfl) (pe_h (has_cosine C) (hr.mono (by decide)) rfl (pa_cons (pv 1) pa_nil))) (pss_one (ps_ret (pe_tup (pa_cons (pe_op op_fdivW (pe_op op_add (pe_op op_mulW (pv 2) (pv 6)) (pe_op op_mulW (pv 4) (pv 5))) (pe_gi C.t.ONE)) (pa_cons (pv 3) (pa_cons (pe_op op_fdivW (pe_op op_sub (pe_op op_mulW (pv 4) (pv 6)) (pe_op op_mulW (pv 2) (pv 5))) (pe_gi C.t.ONE)) pa_nil))))))))), ?_⟩
  obtain ⟨_, v, a, rfl, ⟨p, rfl, hp, ⟨x0, x1⟩, ⟨y0, y1⟩, z0, z1⟩, tb, q⟩ := h
  obtain ⟨⟨s0, s1⟩, c0, c1⟩ := sc_bd a
  walk_at "rx"
  refine rd_unp3 (SqT.of hp) ?_
  walk_at "rx"
  refine rd_f1 trivial ?_
  walk_at "rx"
  refine rd_f1 trivial ?_
  walk_at "rx"
  exact ⟨by show 3 ≤ sizeLine; decide, q.tup (Up.refl tb) rfl⟩
theorem sc_rotated_z : FnScope ["vector", "a", "x", "y", "z", "s", "c"] ["vector", "a"] (defScope (top 58)) := ⟨rfl, rfl, rfl, by decide +kernel, rfl, by decide +kernel, by decide +kernel⟩
theorem has_rotated_z (C : Ctx P w K mg base Ts Ct Cs) : Has P w K mg base "rotated_z" 6 ["vector", "a"] (spRot Ts Dz01.rotateZ) := by
  refine has_of C.t.d_rotated_z sc_rotated_z (fun vs H Q E h => by obtain ⟨a, b, c, rfl, _⟩ := h; rfl) (fun _ _ _ _ _ _ us hl => match us, hl with | [_, _], _ => rfl) fun f cdv A outer s H vs Q E hr h => ⟨_, (pss_cons (ps_asg (pv 0) (pg_tup rfl (pgs_cons (pg_name (i := 2) sc_rotated_z.nd rfl (Or.inl rfl)) (pgs_cons (pg_name (i := 3) sc_rotated_z.nd rfl (Or.inl rfl)) (pgs_cons (pg_name (i := 4) sc_rotated_z.nd rfl (Or.inl rfl)) pgs_nil))))) (pss_cons (ps_set (i := 5) sc_rotated_z.nd rfl (Or.inl rfl) (pe_h (has_sine C) (hr.mono (by decide)) rfl (pa_cons (pv 1) pa_nil))) (pss_cons (ps_set (i := 6) sc_rotated_z.nd rfl (Or.inl rfl) (pe_h (has_cosine C) (hr.mono (by decide)) rfl (pa_cons (pv 1) pa_nil))) (pss_one (ps_ret (pe_tup (pa_cons (pe_op op_fdivW (pe_op op_sub (pe_op op_mulW (pv 2) (pv 6)) (pe_op op_mulW (pv 3) (pv 5))) (pe_gi C.t.ONE)) (pa_cons (pe_op op_fdivW (pe_op op_add (pe_op op_mulW (pv 2) (pv 5)) (pe_op op_mulW (pv 3) (pv 6))) (pe_gi C.t.ONE)) (pa_cons (pv 4) pa_nil))))))))), ?_⟩
  obtain ⟨_, v, a, rfl, ⟨p, rfl, hp, ⟨x0, x1⟩, ⟨y0, y1⟩, z0, z1⟩, tb, q⟩ := h
  obtain ⟨⟨s0, s1⟩, c0, c1⟩ := sc_bd a
  walk_at "rx"
  refine rd_unp3 (SqT.of hp) ?_
  walk_at "rx"
  refine rd_f1 trivial ?_
  walk_at "rx"
  refine rd_f1 trivial ?_
  walk_at "rx"
  exact ⟨by show 3 ≤ sizeLine; decide, q.tup (Up.refl tb) rfl⟩
end
section
variable {P : Program} {w : World} {K : PySem.W.Frag} {mg : Str → Option Value} {base : Heap} {Ts : List (Addr × Str)} {Ct Cs : Addr}
/-! ### distances -/
def dsq (a b : Dz01.Vec) : Int := (a.x - b.x) * (a.x - b.x) + (a.y - b.y) * (a.y - b.y) + (a.z - b.z) * (a.z - b.z)
def sepAt (d : Int) : Int := 2 * Dz01.arcsin (min Dz01.ONE ((Nat.sqrt d.toNat : Int) / 2))
theorem sep_eq (a b : Dz01.Vec) : Dz01.separation a b = sepAt (dsq a b) := rfl
theorem rd_bits {te : TE} {σ : L2.St} {H : Hp} {Q : VK} (h : te σ H fun x H1 => ∃ i, x = .int i ∧ Q (.int (Builtin.Int.intBits i : Nat)) H1) : tBits te σ H Q := h
theorem rd_shl {i j : Int} {H : Hp} {Q : VK} (h : CShl i j) (q : Q (.int (i * 2 ^ j.toNat)) H) : rI CShl (fun i j => V.int (i * 2 ^ j.toNat)) (.int i) (.int j) H Q := ⟨i, j, rfl, rfl, h, q⟩
theorem rd_zipA {K : PySem.W.Frag} {t : TA} {σ : L2.St} {H : Hp} {R : It → Hp → Prop} (h : t σ H fun vs H1 => ∃ a b xs ys, vs = [.ref a, .ref b] ∧ ((SqL K H1 a xs ∧ SqL K H1 b ys ∧ R (Itz K a b) H1) ∨ (SqT K H1 a xs ∧ SqT K H1 b ys ∧ R (RZ.ItzT K a b) H1))) : RZ.iZipA K t σ H R := h
/-- a comprehension over zip of two tuples -/
theorem lc_zipT {K : PySem.W.Frag} {a b : Addr} {xs ys : List V} {g : TG} {tt : TT} {te : TE} {vs : List Nat} {σ : L2.St} {H1 : Hp} {D : Addr} {Qd : Hp → Prop} (hl : xs.length = ys.length) (Pv : Nat → Hp → Prop) (h0 : Pv 0 (upd H1 D (HO.lst [])))
    (hq : ∀ i H, Pv i H → SqT K H a xs ∧ SqT K H b ys)
    (hs : ∀ (i : Nat) (x y : V) (T : Addr) (H : Hp), xs[i]? = some x → ys[i]? = some y → Pv i H → H T = none → g (.ref T) (wipe σ vs) (upd H T (.tup [x, y])) fun σ2 H2 => wipe σ2 vs = wipe σ vs ∧ tt σ2 H2 fun b H3 =>
        if b = true then te σ2 H3 fun y H4 => ∃ acc, H4 D = some (HO.lst acc) ∧ acc.length < sizeLine ∧ Pv (i + 1) (upd H4 D (HO.lst (acc ++ [y]))) else Pv (i + 1) H3) (hd : ∀ H, Pv xs.length H → Qd H) :
    ∃ W : Nat → Nat → Hp → Prop, (∃ m, W 0 m (upd H1 D (HO.lst []))) ∧ ∀ i m H, W i m H →
      ((RZ.ItzT K a b).stop i H ∧ Qd H) ∨ ((RZ.ItzT K a b).go i H ∧ ∃ Nx : Hp → Prop, (∀ H', Nx H' → ∃ m', m' < m ∧ W (i + 1) m' H') ∧ ∀ x H', (RZ.ItzT K a b).yld i H x H' → g x (wipe σ vs) H' fun σ2 H2 => wipe σ2 vs = wipe σ vs ∧ tt σ2 H2 fun b H3 =>
        if b = true then te σ2 H3 fun y H4 => ∃ acc, H4 D = some (HO.lst acc) ∧ acc.length < sizeLine ∧ Nx (upd H4 D (HO.lst (acc ++ [y]))) else Nx H3) := by
  refine ⟨fun i m H => m = xs.length - i ∧ i ≤ xs.length ∧ Pv i H, ⟨xs.length, rfl, Nat.zero_le _, h0⟩, ?_⟩
  rintro i m H ⟨rfl, hi, p⟩
  obtain ⟨qx, qy⟩ := hq i H p
  by_cases hlt : i < xs.length
  · have hx : xs[i]? = some xs[i] := List.getElem?_eq_getElem hlt
    have hy : ys[i]? = some (ys[i]'(hl ▸ hlt)) := List.getElem?_eq_getElem _
    refine .inr ⟨⟨xs, ys, _, _, qx, qy, hx, hy⟩, fun H' => Pv (i + 1) H', fun H' z => ⟨xs.length - (i + 1), by omega, rfl, hlt, z⟩, ?_⟩
    rintro v H' ⟨T, x, y, rfl, nT, rfl, f1, f2⟩
    exact hs i x y T H (f1 xs qx) (f2 ys qy) p nT
  · refine .inl ⟨⟨xs, ys, qx, qy, .inl (by omega)⟩, ?_⟩
    have e : i = xs.length := by omega
    subst e
    exact hd H p
theorem bits_lt {d : Int} (h : 0 ≤ d) : d < 2 ^ (Builtin.Int.intBits d) := by
  unfold Builtin.Int.intBits
  by_cases e : d = 0
  · subst e
    decide
  · rw [if_neg (by rw [beq_iff_eq]; exact e)]
    have q := @Nat.lt_log2_self d.natAbs
    have e1 : ((2 ^ (d.natAbs.log2 + 1) : Nat) : Int) = 2 ^ (d.natAbs.log2 + 1) := by
      rw [Int.natCast_pow]
      rfl
    rw [← e1]
    omega
theorem bits_le {d : Int} {n : Nat} (h : 0 ≤ d) (k : d < 2 ^ n) : Builtin.Int.intBits d ≤ n := by
  unfold Builtin.Int.intBits
  by_cases e : d = 0
  · subst e
    exact Nat.zero_le _
  · rw [if_neg (by rw [beq_iff_eq]; exact e)]
    have e1 : ((2 ^ n : Nat) : Int) = 2 ^ n := by
      rw [Int.natCast_pow]
      rfl
    rw [← e1] at k
    exact (Nat.log2_lt (by omega)).mpr (by omega)
theorem pow2_le {m n : Nat} (h : m ≤ n) : (2 : Int) ^ m ≤ 2 ^ n := by
  have e1 : ∀ n : Nat, ((2 ^ n : Nat) : Int) = 2 ^ n := fun n => by
    rw [Int.natCast_pow]
    rfl
  have q : (2 : Nat) ^ m ≤ 2 ^ n := Nat.pow_le_pow_right (by decide) h
  rw [← e1, ← e1]
  omega
theorem sq_le_sq {a b : Int} (h : 0 ≤ a) (k : a ≤ b) : a * a ≤ b * b := Int.mul_le_mul k k h (by omega)
/-- the root that halving finds is the root -/
theorem root_eq {d : Int} {k : Nat} (h0 : 0 ≤ d) (hk : Builtin.Int.intBits d < 2 * k) : Dz01.bisect (fun m => decide (m * m ≤ d)) k 0 (2 ^ k) = (Nat.sqrt d.toNat : Int) := by
  have e1 : (2 : Int) ^ k - 0 ≤ 2 ^ k := by omega
  have p1 : (0 : Int) < 2 ^ k := by
    have := pow2_le (Nat.zero_le k)
    have e : (2 : Int) ^ 0 = 1 := rfl
    omega
  obtain ⟨b1, b2, b3, b4⟩ := bisect_loop (fun m => decide (m * m ≤ d)) k 0 (2 ^ k) e1
  generalize Dz01.bisect (fun m => decide (m * m ≤ d)) k 0 (2 ^ k) = r at *
  have c1 : r * r ≤ d := by
    rcases b3 with z | z
    · rw [z]
      simpa using h0
    · exact of_decide_eq_true z
  have c2 : d < (r + 1) * (r + 1) := by
    rcases b4 p1 with z | z
    · rw [z]
      have q := bits_lt h0
      have q2 : (2 : Int) ^ (Builtin.Int.intBits d) ≤ 2 ^ (k + k) := pow2_le (by omega)
      rw [Int.pow_add] at q2
      omega
    · have z2 := of_decide_eq_false z
      omega
  have s1 := Nat.sqrt_le d.toNat
  have s2 := Nat.lt_succ_sqrt d.toNat
  generalize Nat.sqrt d.toNat = s at *
  have s1' : (s : Int) * s ≤ d := by
    rw [← Int.natCast_mul]
    omega
  have s2' : d < ((s : Int) + 1) * ((s : Int) + 1) := by
    have : ((s.succ * s.succ : Nat) : Int) = ((s : Int) + 1) * ((s : Int) + 1) := by
      rw [Int.natCast_mul]
      rfl
    rw [← this]
    omega
  by_cases q : r < s
  · have := sq_le_sq (a := r + 1) (b := s) (by omega) (by omega)
    omega
  by_cases q2 : (s : Int) < r
  · have := sq_le_sq (a := (s : Int) + 1) (b := r) (by omega) (by omega)
    omega
  omega
theorem sc_square_root : FnScope ["d", "bound"] ["d"] (defScope (top 59)) := ⟨rfl, rfl, rfl, by decide +kernel, rfl, by decide +kernel, by decide +kernel⟩
abbrev spRoot (Ts : List (Addr × Str)) : Sp := spG1 Ts (fun d => 0 ≤ d ∧ d ≤ 10 ^ 50) fun d => .int (Nat.sqrt d.toNat : Nat)
theorem has_square_root (C : Ctx P w K mg base Ts Ct Cs) : Has P w K mg base "square_root" 8 ["d"] (spRoot Ts) := by
  obtain ⟨fh, fdh, hmh, Fh⟩ := C.t.d_halve
  have kph := Fh.kp
  obtain ⟨och, odh, kVh, doch, pmh, anh, cdh', cth, oslh, efd, lkh, cdh⟩ := Fh.ex
  subst efd
  have bh := Fh.binds (ps := ["holds", "low", "high"]) fun _ _ _ _ _ _ us hl => match us, hl with | [_, _, _], _ => rfl
  refine hasL_of (k := 7) C.l_square_root sc_square_root (fun vs H Q E h => by obtain ⟨a, rfl, _⟩ := h; rfl) (fun _ _ _ _ _ _ us hl => match us, hl with | [_], _ => rfl) fun f co Pt A outer s H vs Q E TB hmT hu hr h => ⟨_, (pss_cons (ps_set (i := 1) sc_square_root.nd rfl (Or.inl rfl) (pe_op op_shlW pe_int (pe_op op_add (pe_op op_fdivW (pe_bits (pv 0)) pe_int) pe_int))) (pss_one (ps_ret (pe_lamH (a := "holds") (b := "low") (c := "high") (y := "m") (Ng := ["holds", "low", "high", "lo", "hi", "middle"]) rfl hmh kph lkh cdh bh sc_halve rfl (Or.inl rfl) halves_ok TB rfl hmT hu hr (lamS1_by (sc := defScope (top 59)) (by decide +kernel)) (show ("m" : Str) ∉ (["d", "bound"] : List Str) by decide) rfl (fun _ _ _ _ _ _ => rfl) (fun A2 outer2 s2 H2 f2 c2 hr2 => (pe_cmpR op_le (pe_op op_mulW (pv 0) (pv 0)) (pv 1) (nomark _))) (pa_cons pe_int (pa_cons (pv 1) pa_nil)))))), ?_⟩
  obtain ⟨d, rfl, ⟨d0, d1⟩, t, q⟩ := h
  have hb : Builtin.Int.intBits d ≤ 167 := bits_le d0 (Int.lt_of_le_of_lt d1 (by decide))
  have hb2 := bits_lt d0
  have er := @root_eq d (Builtin.Int.intBits d / 2 + 1) d0 (by omega)
  walk_at "rx"
  refine rd_bits ?_
  walk_at "rx"
  generalize Builtin.Int.intBits d = n at *
  have ek : (((n : Int) / 2 + 1).toNat) = n / 2 + 1 := by omega
  have pb : (2 : Int) ^ (n / 2 + 1) ≤ 2 ^ 84 := pow2_le (by omega)
  have e84 : (2 : Int) ^ 84 = 19342813113834066795298816 := by decide
  refine rd_shl ⟨by omega, ?_⟩ ?_
  · have : Builtin.Int.intBits 1 = 1 := by decide
    rw [this]
    omega
  walk_at "rx"
  rw [ek, Int.one_mul]
  refine ⟨t, fun H1 e1 t1 => ?_⟩
  walk_at "rx"
  refine ⟨0, 2 ^ (n / 2 + 1), fun m => decide (m * m ≤ d), n / 2 + 1, rfl, by omega, rfl, fun m m0 m1 Q' q' => ?_, ?_⟩
  · walk_at "rx"
    exact q'
  rw [er]
  exact q H1 ⟨e1, t1⟩
theorem upd_swap {H : Hp} {p q : Addr} {a b : HO} (h : p ≠ q) : upd (upd H q b) p a = upd (upd H p a) q b := by
  funext x
  by_cases e : x = p
  · subst e
    rw [upd_same, upd_ne h, upd_same]
  · rw [upd_ne e]
    by_cases e2 : x = q
    · subst e2
      rw [upd_same, upd_same]
    · rw [upd_ne e2, upd_ne e2, upd_ne e]
theorem vi_len (l : List Int) : (vi l).length = l.length := List.length_map ..
theorem sc_square_of_distance : FnScope ["first", "second", "a", "b"] ["first", "second"] (defScope (top 60)) := ⟨rfl, rfl, rfl, by decide +kernel, rfl, by decide +kernel, by decide +kernel⟩
/-- the heap grows, two vectors are read -/
def spVV (Ts : List (Addr × Str)) (f : Dz01.Vec → Dz01.Vec → V) : Sp := fun vs H Q _ => ∃ (a b : V) (v u : Dz01.Vec), vs = [a, b] ∧ VArg (10 ^ 20) H a v ∧ VArg (10 ^ 20) H b u ∧ Tabs Ts H ∧ ∀ H', Up Ts H H' → Q (f v u) H'
theorem has_square_of_distance (C : Ctx P w K mg base Ts Ct Cs) : Has P w K mg base "square_of_distance" 1 ["first", "second"] (spVV Ts fun v u => .int (dsq v u)) := by
  refine has_of C.t.d_square_of_distance sc_square_of_distance (fun vs H Q E h => by obtain ⟨a, b, v, u, rfl, _⟩ := h; rfl) (fun _ _ _ _ _ _ us hl => match us, hl with | [_, _], _ => rfl) fun f cdv A outer s H vs Q E hr h => ⟨_, (pss_one (ps_ret (pe_callB (cr_sum rfl) (by rfl) C.t.sum_ (by decide +kernel) (pa_cons (pe_lc (own := [("a", 2), ("b", 3)]) (g := gTup K 2 (gCons (gName 2) (gCons (gName 3) gNil))) rfl sc_square_of_distance.nd (RZ.pi_zipA (by rfl) C.t.zip_ (pa_cons (pv 0) (pa_cons (pv 1) pa_nil))) (blkOk_by (N := ["first", "second", "a", "b"]) (sc := defScope (top 60)) (by decide +kernel)) (fun _ _ _ _ _ => (pg_tup rfl (pgs_cons (pg_name (i := 2) sc_square_of_distance.nd rfl (Or.inl rfl) (Or.inr rfl)) (pgs_cons (pg_name (i := 3) sc_square_of_distance.nd rfl (Or.inl rfl) (Or.inr rfl)) pgs_nil)))) (fun _ _ _ _ _ => pts_nil) (fun _ _ _ _ _ => (pe_op op_mulW (pe_op op_sub (pv 2) (pv 3)) (pe_op op_sub (pv 2) (pv 3))))) pa_nil)))), ?_⟩
  obtain ⟨_, _, v, u, rfl, ⟨p, rfl, hp, ⟨x0, x1⟩, ⟨y0, y1⟩, z0, z1⟩, ⟨p2, rfl, hp2, ⟨x2, x3⟩, ⟨y2, y3⟩, z2, z3⟩, t, q⟩ := h
  walk_at "rx"
  refine rd_zipA ?_
  walk_at "rx"
  refine ⟨p, p2, vt v, vt u, rfl, .inr ⟨SqT.of hp, SqT.of hp2, fun D hD => ?_⟩⟩
  refine lc_zipT (xs := vt v) (ys := vt u) rfl (fun k H' => ∃ H1, Up Ts H H1 ∧ H1 D = none ∧ H' = upd H1 D (.lst (vi (([(v.x - u.x) * (v.x - u.x), (v.y - u.y) * (v.y - u.y), (v.z - u.z) * (v.z - u.z)]).take k)))) ⟨H, Up.refl t, hD, rfl⟩ ?_ ?_ ?_
  · rintro i H' ⟨H1, u1, d1, rfl⟩
    exact ⟨SqT.of (by rw [upd_ne (ne_of_none hp hD)]; exact u1.tup hp), SqT.of (by rw [upd_ne (ne_of_none hp2 hD)]; exact u1.tup hp2)⟩
  · rintro i a b T H' ha hb ⟨H1, u1, d1, rfl⟩ hT
    have hTD : T ≠ D := fun z => by
      rw [z, upd_same] at hT
      cases hT
    have hT1 : H1 T = none := by
      rw [upd_ne hTD] at hT
      exact hT
    have e : ∃ m n : Int, a = .int m ∧ b = .int n ∧ Bx (10 ^ 20) m ∧ Bx (10 ^ 20) n ∧ vi (([(v.x - u.x) * (v.x - u.x), (v.y - u.y) * (v.y - u.y), (v.z - u.z) * (v.z - u.z)]).take (i + 1)) = vi (([(v.x - u.x) * (v.x - u.x), (v.y - u.y) * (v.y - u.y), (v.z - u.z) * (v.z - u.z)]).take i) ++ [.int ((m - n) * (m - n))] ∧ i < 3 := by
      match i, ha, hb with
      | 0, ha, hb => exact ⟨v.x, u.x, (Option.some.inj ha).symm, (Option.some.inj hb).symm, ⟨x0, x1⟩, ⟨x2, x3⟩, rfl, by decide⟩
      | 1, ha, hb => exact ⟨v.y, u.y, (Option.some.inj ha).symm, (Option.some.inj hb).symm, ⟨y0, y1⟩, ⟨y2, y3⟩, rfl, by decide⟩
      | 2, ha, hb => exact ⟨v.z, u.z, (Option.some.inj ha).symm, (Option.some.inj hb).symm, ⟨z0, z1⟩, ⟨z2, z3⟩, rfl, by decide⟩
    obtain ⟨m, n, rfl, rfl, ⟨m0, m1⟩, ⟨n0, n1⟩, ev, i3⟩ := e
    refine rd_unp2 (SqT.of upd_same) ?_
    refine ⟨rfl, ?_⟩
    walk_at "rx"
    refine ⟨_, by rw [upd_ne hTD.symm, upd_same], ?_, ?_⟩
    · rw [vi_len]
      exact Nat.lt_of_le_of_lt (List.length_take_le' ..) (by show 3 < sizeLine; decide)
    · refine ⟨upd H1 T (.tup [.int m, .int n]), u1.new2 hT1, by rw [upd_ne hTD.symm]; exact d1, ?_⟩
      rw [ev, upd_swap hTD, upd_upd]
  · rintro H' ⟨H1, u1, d1, rfl⟩
    walk_at "rx"
    refine ⟨D, [(v.x - u.x) * (v.x - u.x), (v.y - u.y) * (v.y - u.y), (v.z - u.z) * (v.z - u.z)], rfl, .inl (.inl upd_same), ?_⟩
    have e : ([(v.x - u.x) * (v.x - u.x), (v.y - u.y) * (v.y - u.y), (v.z - u.z) * (v.z - u.z)] : List Int).sum = dsq v u := by
      rw [List.sum_cons, List.sum_cons, List.sum_cons, List.sum_nil]
      unfold dsq
      omega
    rw [e]
    exact q _ (u1.new2 d1)
theorem sc_separation_at : FnScope ["square"] ["square"] (defScope (top 61)) := ⟨rfl, rfl, rfl, by decide +kernel, rfl, by decide +kernel, by decide +kernel⟩
theorem min_if (i j : Int) : (if j < i then j else i) = min i j := by
  rw [Int.min_def]
  split <;> split <;> omega
theorem has_separation_at (C : Ctx P w K mg base Ts Ct Cs) : Has P w K mg base "separation_at" 9 ["square"] (spG1 Ts (fun d => 0 ≤ d ∧ d ≤ 10 ^ 50) fun d => .int (sepAt d)) := by
  refine has_of C.t.d_separation_at sc_separation_at (fun vs H Q E h => by obtain ⟨a, rfl, _⟩ := h; rfl) (fun _ _ _ _ _ _ us hl => match us, hl with | [_], _ => rfl) fun f cdv A outer s H vs Q E hr h => ⟨_, (pss_one (ps_ret (pe_op op_mulW pe_int (pe_h (has_arcsin C) (hr.mono (by decide)) rfl (pa_cons (pe_callB (call_min2 rfl) (by rfl) C.t.min_ (by decide +kernel) (pa_cons (pe_gi C.t.ONE) (pa_cons (pe_op op_fdivW (pe_h (has_square_root C) (hr.mono (by decide)) rfl (pa_cons (pv 0) pa_nil)) pe_int) pa_nil))) pa_nil))))), ?_⟩
  obtain ⟨d, rfl, hd, t, q⟩ := h
  walk_at "rx"
  refine rd_g1 hd t fun H1 u => ?_
  walk_at "rx"
  rw [min_if]
  refine rd_g1 trivial u.2 fun H2 u2 => ?_
  have a0 : 0 ≤ min (1000000000000000000 : Int) ((Nat.sqrt d.toNat : Int) / 2) := by omega
  have ab := arcsin_bd a0
  have eq : Dz01.QUARTER = 324000000 := rfl
  rw [eq] at ab
  walk_at "rx"
  exact q H2 (u.trans u2)
theorem sc_separation_of : FnScope ["first", "second"] ["first", "second"] (defScope (top 62)) := ⟨rfl, rfl, rfl, by decide +kernel, rfl, by decide +kernel, by decide +kernel⟩
theorem dsq_bd {v u : Dz01.Vec} (h : VB (10 ^ 20) v) (k : VB (10 ^ 20) u) : 0 ≤ dsq v u ∧ dsq v u ≤ 10 ^ 50 := by
  obtain ⟨h1, h2, h3⟩ := h
  obtain ⟨k1, k2, k3⟩ := k
  have a := sub_bx h1 k1
  have b := sub_bx h2 k2
  have c := sub_bx h3 k3
  have a1 := mul_bx a a (by decide) (by decide)
  have b1 := mul_bx b b (by decide) (by decide)
  have c1 := mul_bx c c (by decide) (by decide)
  have nn : ∀ z : Int, 0 ≤ z * z := fun z => by
    rcases Int.le_total 0 z with q | q
    · exact Int.mul_nonneg q q
    · exact Int.mul_nonneg_of_nonpos_of_nonpos q q
  have a2 := nn (v.x - u.x)
  have b2 := nn (v.y - u.y)
  have c2 := nn (v.z - u.z)
  unfold dsq
  obtain ⟨_, a3⟩ := a1
  obtain ⟨_, b3⟩ := b1
  obtain ⟨_, c3⟩ := c1
  omega
theorem has_separation_of (C : Ctx P w K mg base Ts Ct Cs) : Has P w K mg base "separation_of" 10 ["first", "second"] (spVV Ts fun v u => .int (Dz01.separation v u)) := by
  refine has_of C.t.d_separation_of sc_separation_of (fun vs H Q E h => by obtain ⟨a, b, v, u, rfl, _⟩ := h; rfl) (fun _ _ _ _ _ _ us hl => match us, hl with | [_, _], _ => rfl) fun f cdv A outer s H vs Q E hr h => ⟨_, (pss_one (ps_ret (pe_h (has_separation_at C) (hr.mono (by decide)) rfl (pa_cons (pe_h (has_square_of_distance C) (hr.mono (by decide)) rfl (pa_cons (pv 0) (pa_cons (pv 1) pa_nil))) pa_nil)))), ?_⟩
  obtain ⟨a, b, v, u, rfl, ha, hb, t, q⟩ := h
  have bd := dsq_bd (by obtain ⟨_, _, _, h⟩ := ha; exact h) (by obtain ⟨_, _, _, h⟩ := hb; exact h)
  walk_at "rx"
  refine ⟨a, b, v, u, rfl, ha, hb, t, fun H1 u1 => ?_⟩
  walk_at "rx"
  exact rd_g1 bd u1.2 fun H2 u2 => q H2 (u1.trans u2)
theorem sc_is_within : FnScope ["square", "angle", "half", "bound"] ["square", "angle"] (defScope (top 63)) := ⟨rfl, rfl, rfl, by decide +kernel, rfl, by decide +kernel, by decide +kernel⟩
/-- the separation at a square of a distance is within an angle -/
theorem within_iff {d a : Int} (h0 : 0 ≤ d) (ha : 0 ≤ a) (hq : a / 2 < 324000000) : sepAt d ≤ a ↔ d < (2 * Dz01.sin (a / 2 + 1)) * (2 * Dz01.sin (a / 2 + 1)) := by
  have s1 := Nat.sqrt_le d.toNat
  have s2 := Nat.lt_succ_sqrt d.toNat
  unfold sepAt
  generalize Nat.sqrt d.toNat = s at *
  have s1' : (s : Int) * s ≤ d := by
    rw [← Int.natCast_mul]
    omega
  have s2' : d < ((s : Int) + 1) * ((s : Int) + 1) := by
    have : ((s.succ * s.succ : Nat) : Int) = ((s : Int) + 1) * ((s : Int) + 1) := by
      rw [Int.natCast_mul]
      rfl
    rw [← this]
    omega
  have o1 : Dz01.ONE = 1000000000000000000 := rfl
  have m0 : 0 ≤ min Dz01.ONE ((s : Int) / 2) := by
    rw [o1]
    omega
  have k := arcsin_le_iff m0 (show 0 ≤ a / 2 by omega) hq
  have e1 : 2 * Dz01.arcsin (min Dz01.ONE ((s : Int) / 2)) ≤ a ↔ Dz01.arcsin (min Dz01.ONE ((s : Int) / 2)) ≤ a / 2 := by omega
  rw [e1, k]
  have sb := (sin_bd (a / 2 + 1)).2
  have sn := sin_mono (a := 0) (b := a / 2 + 1) (by decide) (by omega) (by show a / 2 + 1 ≤ 324000000; omega)
  have z0 : Dz01.sin 0 = 0 := by decide +kernel
  rw [z0] at sn
  rw [o1] at sb ⊢
  generalize Dz01.sin (a / 2 + 1) = z at *
  constructor
  · intro q
    have q2 : (s : Int) + 1 ≤ 2 * z := by omega
    have := sq_le_sq (a := (s : Int) + 1) (b := 2 * z) (by omega) q2
    omega
  · intro q
    by_cases c : (s : Int) < 2 * z
    · omega
    · have := sq_le_sq (a := 2 * z) (b := s) (by omega) (by omega)
      omega
theorem has_is_within (C : Ctx P w K mg base Ts Ct Cs) : Has P w K mg base "is_within" 5 ["square", "angle"] (spF2 (fun d a => 0 ≤ d ∧ 0 ≤ a) fun d a => .bl (decide (sepAt d ≤ a))) := by
  refine has_of C.t.d_is_within sc_is_within (fun vs H Q E h => by obtain ⟨a, b, rfl, _⟩ := h; rfl) (fun _ _ _ _ _ _ us hl => match us, hl with | [_, _], _ => rfl) fun f cdv A outer s H vs Q E hr h => ⟨_, (pss_cons (ps_set (i := 2) sc_is_within.nd rfl (Or.inl rfl) (pe_op op_fdivW (pv 1) pe_int)) (pss_cons (ps_if (pt_cmpR op_ge (pv 2) (pe_gi C.t.QUARTER) (nomark _)) (pss_one (ps_ret pe_bl)) pss_nil) (pss_cons (ps_set (i := 3) sc_is_within.nd rfl (Or.inl rfl) (pe_op op_mulW pe_int (pe_h (has_sine C) (hr.mono (by decide)) rfl (pa_cons (pe_op op_add (pv 2) pe_int) pa_nil)))) (pss_one (ps_ret (pe_cmpR op_lt (pv 0) (pe_op op_mulW (pv 3) (pv 3)) (nomark _))))))), ?_⟩
  obtain ⟨d, a, rfl, ⟨d0, a0⟩, q⟩ := h
  have q : Q (.bl (decide (sepAt d ≤ a))) H := q
  walk_at "rx"
  refine rd_d (fun c => ?_) (fun c => ?_)
  · have e : sepAt d ≤ a := by
      unfold sepAt
      have m0 : 0 ≤ min Dz01.ONE ((Nat.sqrt d.toNat : Int) / 2) := by
        have o1 : Dz01.ONE = 1000000000000000000 := rfl
        rw [o1]
        omega
      have ab := (arcsin_bd m0).2
      have eq : Dz01.QUARTER = 324000000 := rfl
      rw [eq] at ab
      omega
    rw [decide_eq_true e] at q
    walk_at "rx"
    exact q
  · have k := within_iff d0 a0 (by omega)
    have sb := sin_bd (a / 2 + 1)
    have o1 : Dz01.ONE = 1000000000000000000 := rfl
    rw [o1] at sb
    obtain ⟨s0, s1⟩ := sb
    walk_at "rx"
    refine rd_f1 trivial ?_
    walk_at "rx"
    rw [decide_eq_decide.mpr k] at q
    exact q
end
section
variable {P : Program} {w : World} {K : PySem.W.Frag} {mg : Str → Option Value} {base : Heap} {Ts : List (Addr × Str)} {Ct Cs : Addr}
/-! ### stars -/
def starF (na : Addr) (x : Dz01.Star) : List (Str × V) := [("name", .ref na), ("right_ascension", .int x.ra), ("declination", .int x.dec), ("magnitude", .int x.magnitude), ("right_ascension_motion", .int x.motionRa), ("declination_motion", .int x.motionDec)]
/-- bytes as ints -/
def vn (l : List Nat) : List V := l.map fun (n : Nat) => V.int (n : Int)
/-- a star that can be in a catalogue -/
def StarOk (x : Dz01.Star) : Prop := (0 ≤ x.ra ∧ x.ra < 1296000000) ∧ Bx 324000000 x.dec ∧ Bx 99999 x.magnitude ∧ Bx 99999 x.motionRa ∧ Bx 99999 x.motionDec ∧ x.name.length ≤ 12 ∧ x.name ≠ [] ∧ ∀ b ∈ x.name, b < 256
def StarAt (Ct : Addr) (H : Hp) (a : Addr) (x : Dz01.Star) : Prop := (∃ dx na, H a = some (.ins Ct dx (starF na x)) ∧ H na = some (.lst (vn x.name))) ∧ StarOk x
theorem StarAt.up {H H1 : Hp} {a : Addr} {x : Dz01.Star} (h : StarAt Ct H a x) (u : Up Ts H H1) : StarAt Ct H1 a x := by
  obtain ⟨⟨dx, na, h1, h2⟩, h3⟩ := h
  exact ⟨⟨dx, na, u.ins h1, u.lst h2⟩, h3⟩
theorem sc_Star_init : FnScope ["self", "name", "right_ascension", "declination", "magnitude", "motions"] ["self", "name", "right_ascension", "declination", "magnitude", "motions"] (defScope (inClass (top 69) 0)) := ⟨rfl, rfl, rfl, by decide +kernel, rfl, by decide +kernel, by decide +kernel⟩
def spInitStar (Ct : Addr) : Sp := fun vs H Q _ => ∃ (p dx na mo : Addr) (x : Dz01.Star), vs = [.ref p, .ref na, .int x.ra, .int x.dec, .int x.magnitude, .ref mo] ∧ H p = some (.ins Ct dx []) ∧ H mo = some (.tup [.int x.motionRa, .int x.motionDec]) ∧ Q .non (upd H p (.ins Ct dx (starF na x)))
theorem has_Star_init (C : Ctx P w K mg base Ts Ct Cs) : HasI P w K mg base Ct 1 ["self", "name", "right_ascension", "declination", "magnitude", "motions"] (spInitStar Ct) := by
  obtain ⟨f, fd, M, F⟩ := C.star_init
  refine ⟨f, fd, M, fnok_of F sc_Star_init (fun vs H Q E h => by obtain ⟨_, _, _, _, _, rfl, _⟩ := h; rfl) (fun cdv A outer s H vs Q E hr h => ⟨_, (pss_cons (ps_fld (pv 0) (pv 1) rfl) (pss_cons (ps_fld (pv 0) (pv 2) rfl) (pss_cons (ps_fld (pv 0) (pv 3) rfl) (pss_cons (ps_fld (pv 0) (pv 4) rfl) (pss_cons (ps_fld (pv 0) (pe_ix ix_tup (pv 5) pe_int (fun _ _ => rfl)) rfl) (pss_one (ps_fld (pv 0) (pe_ix ix_tup (pv 5) pe_int (fun _ _ => rfl)) rfl))))))), ?_⟩), F.binds fun _ _ _ _ _ _ us hl => match us, hl with | [_, _, _, _, _, _], _ => rfl⟩
  obtain ⟨p, dx, na, mo, x, rfl, hp, hm, q⟩ := h
  have nm : mo ≠ p := fun z => by
    rw [z, hp] at hm
    cases hm
  walk_at "rx"
  refine ⟨p, Ct, dx, _, rfl, hp, C.star.cl, C.star.na _ (by decide), by decide, ?_⟩
  walk_at "rx"
  refine ⟨p, Ct, dx, _, rfl, upd_same, C.star.cl, C.star.na _ (by decide), by show 1 < 1000; decide, ?_⟩
  walk_at "rx"
  refine ⟨p, Ct, dx, _, rfl, upd_same, C.star.cl, C.star.na _ (by decide), by show 2 < 1000; decide, ?_⟩
  walk_at "rx"
  refine ⟨p, Ct, dx, _, rfl, upd_same, C.star.cl, C.star.na _ (by decide), by show 3 < 1000; decide, ?_⟩
  walk_at "rx"
  rw [upd_upd, upd_upd, upd_upd]
  refine ⟨mo, _, 0, _, rfl, rfl, SqT.of (by rw [upd_ne nm]; exact hm), rfl, ?_⟩
  walk_at "rx"
  refine ⟨p, Ct, dx, _, rfl, upd_same, C.star.cl, C.star.na _ (by decide), by show 4 < 1000; decide, ?_⟩
  walk_at "rx"
  rw [upd_upd]
  refine ⟨mo, _, 1, _, rfl, rfl, SqT.of (by rw [upd_ne nm]; exact hm), rfl, ?_⟩
  walk_at "rx"
  refine ⟨p, Ct, dx, _, rfl, upd_same, C.star.cl, C.star.na _ (by decide), by show 5 < 1000; decide, ?_⟩
  rw [upd_upd]
  exact q
theorem pe_mkStar {X : Cx} {p pos : Pos} {e : Expr} {es : List Expr} {t : TA} (C : Ctx X.prog X.w X.K X.mg X.base Ts Ct Cs) (hr : Room 2 X.A) (ha : PA X (e :: es) t) (hg : Gl X "Star" := by rfl)
    (he : starEach (e :: es) X.env = (false, eval e X.env) :: starEach es X.env := by rfl) (hpl : (backTo pos (starEach es X.env)).any (·.1) = false := by rfl) : PE X (.Call (.Name "Star" p) (e :: es) [] pos) (tMake Ct (spInitStar Ct) [] E0 t) := by
  obtain ⟨f, fd, M, F, b⟩ := has_Star_init C
  exact pe_make M F hr hg C.star.gl b .nil pass0 ha (by decide) he hpl
theorem sc_moved_vector : FnScope ["star", "t", "longitude", "latitude"] ["star", "t"] (defScope (top 70)) := ⟨rfl, rfl, rfl, by decide +kernel, rfl, by decide +kernel, by decide +kernel⟩
def spSt (Ts : List (Addr × Str)) (Ct : Addr) (f : Dz01.Star → Int → Dz01.Vec) : Sp := fun vs H Q _ => ∃ (a : Addr) (x : Dz01.Star) (t : Int), vs = [.ref a, .int t] ∧ StarAt Ct H a x ∧ Bx 10000000000 t ∧ Tabs Ts H ∧ RetV Ts H Q (f x t)
theorem has_moved_vector (C : Ctx P w K mg base Ts Ct Cs) : Has P w K mg base "moved_vector" 7 ["star", "t"] (spSt Ts Ct Dz01.moved) := by
  refine has_of C.t.d_moved_vector sc_moved_vector (fun vs H Q E h => by obtain ⟨a, b, c, rfl, _⟩ := h; rfl) (fun _ _ _ _ _ _ us hl => match us, hl with | [_, _], _ => rfl) fun f cdv A outer s H vs Q E hr h => ⟨_, (pss_cons (ps_set (i := 2) sc_moved_vector.nd rfl (Or.inl rfl) (pe_op op_add (pe_fld (pv 0) rfl) (pe_op op_fdivW (pe_op op_mulW (pe_fld (pv 0) rfl) (pv 1)) (pe_gi C.t.YEAR)))) (pss_cons (ps_set (i := 3) sc_moved_vector.nd rfl (Or.inl rfl) (pe_op op_add (pe_fld (pv 0) rfl) (pe_op op_fdivW (pe_op op_mulW (pe_fld (pv 0) rfl) (pv 1)) (pe_gi C.t.YEAR)))) (pss_one (ps_ret (pe_h (has_vector_at C) (hr.mono (by decide)) rfl (pa_cons (pv 2) (pa_cons (pv 3) pa_nil))))))), ?_⟩
  obtain ⟨a, x, t, rfl, ⟨⟨dx, na, hp, hn⟩, ⟨_, _⟩, ⟨_, _⟩, _, ⟨m0, m1⟩, ⟨m2, m3⟩, _, _⟩, ⟨t0, t1⟩, tb, q⟩ := h
  walk_at "rx"
  refine ⟨a, Ct, dx, _, _, rfl, hp, C.star.cl, C.star.na _ (by decide), rfl, ?_⟩
  walk_at "rx"
  refine ⟨a, Ct, dx, _, _, rfl, hp, C.star.cl, C.star.na _ (by decide), rfl, ?_⟩
  walk_at "rx"
  refine ⟨a, Ct, dx, _, _, rfl, hp, C.star.cl, C.star.na _ (by decide), rfl, ?_⟩
  walk_at "rx"
  refine ⟨a, Ct, dx, _, _, rfl, hp, C.star.cl, C.star.na _ (by decide), rfl, ?_⟩
  walk_at "rx"
  exact ⟨_, _, rfl, tb, q⟩
theorem sc_place_vector : FnScope ["star", "t", "p", "n", "vector"] ["star", "t"] (defScope (top 71)) := ⟨rfl, rfl, rfl, by decide +kernel, rfl, by decide +kernel, by decide +kernel⟩
theorem place_vb (x : Dz01.Star) (t : Int) : VB (10 ^ 20) (Dz01.place x t) := by
  have h0 := vector_vb (x.ra + x.motionRa * t / Dz01.YEAR) (x.dec + x.motionDec * t / Dz01.YEAR)
  have h1 := rotZ_vb (Dz01.inCentury 2306218 t) h0 (by decide)
  have h2 := rotY_vb (-(Dz01.inCentury 2004311 t)) h1 (by decide)
  have h3 := rotZ_vb (Dz01.inCentury 2306218 t) h2 (by decide)
  exact h3.mono (by decide)
theorem has_place_vector (C : Ctx P w K mg base Ts Ct Cs) : Has P w K mg base "place_vector" 8 ["star", "t"] (spSt Ts Ct Dz01.place) := by
  refine has_of C.t.d_place_vector sc_place_vector (fun vs H Q E h => by obtain ⟨a, b, c, rfl, _⟩ := h; rfl) (fun _ _ _ _ _ _ us hl => match us, hl with | [_, _], _ => rfl) fun f cdv A outer s H vs Q E hr h => ⟨_, (pss_cons (ps_set (i := 2) sc_place_vector.nd rfl (Or.inl rfl) (pe_op op_fdivW (pe_op op_mulW (pe_gi C.t.PRECESSION_P) (pv 1)) (pe_gi C.t.CENTURY))) (pss_cons (ps_set (i := 3) sc_place_vector.nd rfl (Or.inl rfl) (pe_op op_fdivW (pe_op op_mulW (pe_gi C.t.PRECESSION_N) (pv 1)) (pe_gi C.t.CENTURY))) (pss_cons (ps_set (i := 4) sc_place_vector.nd rfl (Or.inl rfl) (pe_h (has_rotated_z C) (hr.mono (by decide)) rfl (pa_cons (pe_h (has_moved_vector C) (hr.mono (by decide)) rfl (pa_cons (pv 0) (pa_cons (pv 1) pa_nil))) (pa_cons (pv 2) pa_nil)))) (pss_one (ps_ret (pe_h (has_rotated_z C) (hr.mono (by decide)) rfl (pa_cons (pe_h (has_rotated_y C) (hr.mono (by decide)) rfl (pa_cons (pv 4) (pa_cons (pe_un un_neg (pv 3)) pa_nil))) (pa_cons (pv 2) pa_nil)))))))), ?_⟩
  obtain ⟨a, x, t, rfl, hx, tt, tb, q⟩ := h
  obtain ⟨t0, t1⟩ := id tt
  have h0 := vector_vb (x.ra + x.motionRa * t / Dz01.YEAR) (x.dec + x.motionDec * t / Dz01.YEAR)
  have h1 := rotZ_vb (Dz01.inCentury 2306218 t) h0 (by decide)
  have h2 := rotY_vb (-(Dz01.inCentury 2004311 t)) h1 (by decide)
  walk_at "rx"
  refine ⟨a, x, t, rfl, hx, tt, tb, fun H1 p1 u1 e1 => ?_⟩
  walk_at "rx"
  refine ⟨.ref p1, _, _, rfl, ⟨p1, rfl, e1, h0.mono (by decide)⟩, u1.2, fun H2 p2 u2 e2 => ?_⟩
  walk_at "rx"
  refine ⟨.ref p2, _, _, rfl, ⟨p2, rfl, e2, h1.mono (by decide)⟩, u2.2, fun H3 p3 u3 e3 => ?_⟩
  walk_at "rx"
  exact ⟨.ref p3, _, _, rfl, ⟨p3, rfl, e3, h2.mono (by decide)⟩, u3.2, fun H4 p4 u4 e4 => q H4 p4 ((u1.trans u2).trans (u3.trans u4)) e4⟩
theorem sc_ecliptic_vector : FnScope ["vector"] ["vector"] (defScope (top 72)) := ⟨rfl, rfl, rfl, by decide +kernel, rfl, by decide +kernel, by decide +kernel⟩
def spV1 (Ts : List (Addr × Str)) (f : Dz01.Vec → Dz01.Vec) : Sp := fun vs H Q _ => ∃ (b : V) (v : Dz01.Vec), vs = [b] ∧ VArg (10 ^ 20) H b v ∧ Tabs Ts H ∧ RetV Ts H Q (f v)
theorem VArg.mono {M N : Int} {H : Hp} {a : V} {v : Dz01.Vec} (h : VArg M H a v) (l : M ≤ N) : VArg N H a v := by
  obtain ⟨p, e, h1, h2⟩ := h
  exact ⟨p, e, h1, h2.mono l⟩
theorem has_ecliptic_vector (C : Ctx P w K mg base Ts Ct Cs) : Has P w K mg base "ecliptic_vector" 7 ["vector"] (spV1 Ts Dz01.toEcliptic) := by
  refine has_of C.t.d_ecliptic_vector sc_ecliptic_vector (fun vs H Q E h => by obtain ⟨a, b, rfl, _⟩ := h; rfl) (fun _ _ _ _ _ _ us hl => match us, hl with | [_], _ => rfl) fun f cdv A outer s H vs Q E hr h => ⟨_, (pss_one (ps_ret (pe_h (has_rotated_x C) (hr.mono (by decide)) rfl (pa_cons (pv 0) (pa_cons (pe_un un_neg (pe_gi C.t.OBLIQUITY)) pa_nil))))), ?_⟩
  obtain ⟨b, v, rfl, hv, tb, q⟩ := h
  walk_at "rx"
  exact ⟨b, v, -84381448, rfl, hv.mono (by decide), tb, q⟩
theorem sc_horizontal_vector : FnScope ["vector", "t", "site_longitude", "site_latitude", "x", "y", "z", "s", "c"] ["vector", "t", "site_longitude", "site_latitude"] (defScope (top 73)) := ⟨rfl, rfl, rfl, by decide +kernel, rfl, by decide +kernel, by decide +kernel⟩
def spHor (Ts : List (Addr × Str)) : Sp := fun vs H Q _ => ∃ (b : V) (v : Dz01.Vec) (t lon lat : Int), vs = [b, .int t, .int lon, .int lat] ∧ VArg (10 ^ 20) H b v ∧ Bx 10000000000 t ∧ Tabs Ts H ∧ RetV Ts H Q (Dz01.toHorizon ⟨lon, lat⟩ t v)
theorem has_horizontal_vector (C : Ctx P w K mg base Ts Ct Cs) : Has P w K mg base "horizontal_vector" 7 ["vector", "t", "site_longitude", "site_latitude"] (spHor Ts) := by
  refine has_of C.t.d_horizontal_vector sc_horizontal_vector (fun vs H Q E h => by obtain ⟨a, b, c, d, e, rfl, _⟩ := h; rfl) (fun _ _ _ _ _ _ us hl => match us, hl with | [_, _, _, _], _ => rfl) fun f cdv A outer s H vs Q E hr h => ⟨_, (pss_cons (ps_asg (pe_h (has_rotated_z C) (hr.mono (by decide)) rfl (pa_cons (pv 0) (pa_cons (pe_un un_neg (pe_op op_add (pe_h (has_sidereal_time C) (hr.mono (by decide)) rfl (pa_cons (pv 1) pa_nil)) (pv 2))) pa_nil))) (pg_tup rfl (pgs_cons (pg_name (i := 4) sc_horizontal_vector.nd rfl (Or.inl rfl)) (pgs_cons (pg_name (i := 5) sc_horizontal_vector.nd rfl (Or.inl rfl)) (pgs_cons (pg_name (i := 6) sc_horizontal_vector.nd rfl (Or.inl rfl)) pgs_nil))))) (pss_cons (ps_set (i := 7) sc_horizontal_vector.nd rfl (Or.inl rfl) (pe_h (has_sine C) (hr.mono (by decide)) rfl (pa_cons (pv 3) pa_nil))) (pss_cons (ps_set (i := 8) sc_horizontal_vector.nd rfl (Or.inl rfl) (pe_h (has_cosine C) (hr.mono (by decide)) rfl (pa_cons (pv 3) pa_nil))) (pss_one (ps_ret (pe_tup (pa_cons (pe_op op_fdivW (pe_op op_sub (pe_op op_mulW (pv 6) (pv 8)) (pe_op op_mulW (pv 4) (pv 7))) (pe_gi C.t.ONE)) (pa_cons (pv 5) (pa_cons (pe_op op_fdivW (pe_op op_add (pe_op op_mulW (pv 4) (pv 8)) (pe_op op_mulW (pv 6) (pv 7))) (pe_gi C.t.ONE)) pa_nil))))))))), ?_⟩
  obtain ⟨b, v, t, lon, lat, rfl, hv, tt, tb, q⟩ := h
  walk_at "rx"
  refine rd_f1 tt ?_
  walk_at "rx"
  have hb : VB (10 ^ 20) v := by
    obtain ⟨_, _, _, h⟩ := hv
    exact h
  refine ⟨b, v, _, rfl, hv.mono (by decide), tb, fun H1 p1 u1 e1 => ?_⟩
  obtain ⟨⟨x0, x1⟩, ⟨y0, y1⟩, z0, z1⟩ := rotZ_vb (-(Dz01.siderealTime t + lon)) hb (by decide)
  obtain ⟨⟨s0, s1⟩, c0, c1⟩ := sc_bd lat
  have q : ∀ H' p, Up Ts H H' → H' p = some (.tup (vt ⟨((Dz01.rotateZ (-(Dz01.siderealTime t + lon)) v).z * Dz01.cos lat - (Dz01.rotateZ (-(Dz01.siderealTime t + lon)) v).x * Dz01.sin lat) / Dz01.ONE, (Dz01.rotateZ (-(Dz01.siderealTime t + lon)) v).y, ((Dz01.rotateZ (-(Dz01.siderealTime t + lon)) v).x * Dz01.cos lat + (Dz01.rotateZ (-(Dz01.siderealTime t + lon)) v).z * Dz01.sin lat) / Dz01.ONE⟩)) → Q (.ref p) H' := q
  generalize Dz01.rotateZ (-(Dz01.siderealTime t + lon)) v = r at *
  walk_at "rx"
  refine rd_unp3 (SqT.of e1) ?_
  walk_at "rx"
  refine rd_f1 trivial ?_
  walk_at "rx"
  refine rd_f1 trivial ?_
  walk_at "rx"
  exact ⟨by show 3 ≤ sizeLine; decide, RetV.tup q u1 rfl⟩
end
section
variable {P : Program} {w : World} {K : PySem.W.Frag} {mg : Str → Option Value} {base : Heap} {Ts : List (Addr × Str)} {Ct Cs : Addr}
/-! ### hits, in order -/
theorem arcsin_mono {v u : Int} (h0 : 0 ≤ v) (h : v ≤ u) : Dz01.arcsin v ≤ Dz01.arcsin u := by
  have b := arcsin_bd (v := u) (by omega)
  have c := arcsin_bd h0
  by_cases q : Dz01.arcsin u < Dz01.QUARTER
  · have k := (arcsin_le_iff (v := u) (by omega) b.1 q).mp (Int.le_refl _)
    exact (arcsin_le_iff h0 b.1 q).mpr (by omega)
  · omega
theorem sqrt_mono {d e : Nat} (h : d ≤ e) : Nat.sqrt d ≤ Nat.sqrt e := by
  have a := Nat.sqrt_le d
  have b := Nat.lt_succ_sqrt e
  by_cases q : Nat.sqrt d ≤ Nat.sqrt e
  · exact q
  · have k : (Nat.sqrt e).succ * (Nat.sqrt e).succ ≤ Nat.sqrt d * Nat.sqrt d := Nat.mul_le_mul (by omega) (by omega)
    omega
theorem sepAt_mono {d e : Int} (h : d ≤ e) : sepAt d ≤ sepAt e := by
  have k := sqrt_mono (d := d.toNat) (e := e.toNat) (by omega)
  have o1 : Dz01.ONE = 1000000000000000000 := rfl
  have m : Dz01.arcsin (min Dz01.ONE ((Nat.sqrt d.toNat : Int) / 2)) ≤ Dz01.arcsin (min Dz01.ONE ((Nat.sqrt e.toNat : Int) / 2)) := arcsin_mono (by rw [o1]; omega) (by rw [o1]; omega)
  unfold sepAt
  omega
theorem sepAt_bd (d : Int) : 0 ≤ sepAt d ∧ sepAt d ≤ 648000000 := by
  have o1 : Dz01.ONE = 1000000000000000000 := rfl
  have o2 : Dz01.QUARTER = 324000000 := rfl
  have b := arcsin_bd (v := min Dz01.ONE ((Nat.sqrt d.toNat : Int) / 2)) (by rw [o1]; omega)
  rw [o2] at b
  unfold sepAt
  omega
/-- by separation, then by number -/
def hitLe (a b : Dz01.Hit) : Prop := a.2 < b.2 ∨ (a.2 = b.2 ∧ a.1 ≤ b.1)
theorem hitLe_trans {a b c : Dz01.Hit} (h : hitLe a b) (k : hitLe b c) : hitLe a c := by
  unfold hitLe at *
  omega
theorem hitLe_anti {a b : Dz01.Hit} (h : hitLe a b) (k : hitLe b a) : a = b := by
  unfold hitLe at *
  exact Prod.ext (by omega) (by omega)
theorem before_t {a b : Dz01.Hit} (h : Dz01.hitBefore a b = true) : hitLe a b := by
  unfold Dz01.hitBefore at h
  unfold hitLe
  rw [Bool.or_eq_true, Bool.and_eq_true, decide_eq_true_eq, beq_iff_eq, decide_eq_true_eq] at h
  omega
theorem before_f {a b : Dz01.Hit} (h : ¬ Dz01.hitBefore a b = true) : hitLe b a := by
  unfold Dz01.hitBefore at h
  unfold hitLe
  rw [Bool.or_eq_true, Bool.and_eq_true, decide_eq_true_eq, beq_iff_eq, decide_eq_true_eq] at h
  omega
theorem insert_perm (a : Dz01.Hit) : ∀ l, (Dz01.insertHit a l).Perm (a :: l)
  | [] => List.Perm.refl _
  | b :: l => by
    show (if Dz01.hitBefore a b = true then a :: b :: l else b :: Dz01.insertHit a l).Perm (a :: b :: l)
    split
    · exact List.Perm.refl _
    · exact ((insert_perm a l).cons b).trans (List.Perm.swap a b l)
theorem insert_sorted (a : Dz01.Hit) : ∀ l, List.Pairwise hitLe l → List.Pairwise hitLe (Dz01.insertHit a l)
  | [], _ => List.pairwise_singleton _ _
  | b :: l, h => by
    obtain ⟨h1, h2⟩ := List.pairwise_cons.mp h
    show List.Pairwise hitLe (if Dz01.hitBefore a b = true then a :: b :: l else b :: Dz01.insertHit a l)
    split
    · rename_i c
      refine List.pairwise_cons.mpr ⟨fun x hx => ?_, h⟩
      rcases List.mem_cons.mp hx with e | e
      · rw [e]
        exact before_t c
      · exact hitLe_trans (before_t c) (h1 x e)
    · rename_i c
      refine List.pairwise_cons.mpr ⟨fun x hx => ?_, insert_sorted a l h2⟩
      rcases List.mem_cons.mp ((insert_perm a l).mem_iff.mp hx) with e | e
      · rw [e]
        exact before_f c
      · exact h1 x e
theorem fold_perm : ∀ l : List Dz01.Hit, (l.foldr Dz01.insertHit []).Perm l
  | [] => List.Perm.refl _
  | a :: l => (insert_perm a _).trans ((fold_perm l).cons a)
theorem fold_sorted : ∀ l : List Dz01.Hit, List.Pairwise hitLe (l.foldr Dz01.insertHit [])
  | [] => List.Pairwise.nil
  | a :: l => insert_sorted a _ (fold_sorted l)
theorem head_min {l : List Dz01.Hit} {h : Dz01.Hit} (hm : h ∈ l) (hl : ∀ x ∈ l, hitLe h x) : (l.foldr Dz01.insertHit []).head? = some h := by
  have p := fold_perm l
  have s := fold_sorted l
  generalize l.foldr Dz01.insertHit [] = m at *
  cases m with
  | nil => exact absurd (p.symm.mem_iff.mp hm) (by simp)
  | cons b m =>
    have hb : b ∈ l := p.mem_iff.mp (List.mem_cons_self ..)
    have k1 := hl b hb
    rcases List.mem_cons.mp (p.symm.mem_iff.mp hm) with e | e
    · rw [e]
      rfl
    · have k2 := (List.pairwise_cons.mp s).1 h e
      rw [hitLe_anti k1 k2]
      rfl
theorem numbered_get (ss : List Dz01.Star) (k : Nat) : (Dz01.numbered ss)[k]? = ss[k]?.map fun x => (k, x) := by
  unfold Dz01.numbered
  rw [List.zip, List.getElem?_zipWith]
  by_cases h : k < ss.length
  · rw [List.getElem?_range h, List.getElem?_eq_getElem h]
    rfl
  · rw [List.getElem?_eq_none (l := ss) (by omega), List.getElem?_eq_none (l := List.range ss.length) (by rw [List.length_range]; omega)]
    rfl
theorem numbered_len (ss : List Dz01.Star) : (Dz01.numbered ss).length = ss.length := by
  unfold Dz01.numbered
  rw [List.length_zip, List.length_range]
  omega
theorem numbered_take (ss : List Dz01.Star) {k : Nat} {x : Dz01.Star} (h : ss[k]? = some x) : (Dz01.numbered ss).take (k + 1) = (Dz01.numbered ss).take k ++ [(k, x)] := by
  rw [List.take_add_one, numbered_get, h]
  rfl
theorem numbered_mem {ss : List Dz01.Star} {p : Nat × Dz01.Star} (h : p ∈ Dz01.numbered ss) : ss[p.1]? = some p.2 := by
  obtain ⟨i, e⟩ := List.mem_iff_getElem?.mp h
  rw [numbered_get] at e
  cases q : ss[i]? with
  | none =>
    rw [q] at e
    cases e
  | some y =>
    rw [q] at e
    have e' := Option.some.inj e
    rw [← e']
    exact q
theorem filterMap_cg {α β : Type} {f g : α → Option β} : ∀ {l : List α}, (∀ x ∈ l, f x = g x) → l.filterMap f = l.filterMap g
  | [], _ => rfl
  | a :: l, h => by
    rw [List.filterMap_cons, List.filterMap_cons, h a (List.mem_cons_self ..), filterMap_cg fun x hx => h x (List.mem_cons_of_mem _ hx)]
/-- the nearest one: the first whose separation is least -/
theorem nearest_eq {ss : List Dz01.Star} {v : Dz01.Vec} {t : Int} {j : Nat} {x : Dz01.Star} (hok : ∀ y ∈ ss, y.magnitude ≤ 99999) (hj : ss[j]? = some x) (hmin : ∀ (i : Nat) (y : Dz01.Star), ss[i]? = some y → Dz01.separation (Dz01.place x t) v ≤ Dz01.separation (Dz01.place y t) v)
    (hfirst : ∀ (i : Nat) (y : Dz01.Star), i < j → ss[i]? = some y → Dz01.separation (Dz01.place x t) v < Dz01.separation (Dz01.place y t) v) : Dz01.nearest ss v t = some (j, Dz01.separation (Dz01.place x t) v) := by
  have ef : (Dz01.numbered ss).filterMap (fun x => let d := Dz01.separation (Dz01.place x.2 t) v
      if d ≤ 2 * Dz01.QUARTER ∧ x.2.magnitude ≤ 100000 then some (x.1, d) else none) = (Dz01.numbered ss).map fun x => (x.1, Dz01.separation (Dz01.place x.2 t) v) := by
    rw [← List.filterMap_eq_map]
    refine filterMap_cg fun p hp => ?_
    have k := numbered_mem hp
    have m := hok p.2 (List.mem_of_getElem? k)
    have s := (sepAt_bd (dsq (Dz01.place p.2 t) v)).2
    rw [← sep_eq] at s
    exact if_pos ⟨s, by omega⟩
  show (((Dz01.numbered ss).filterMap (fun x => let d := Dz01.separation (Dz01.place x.2 t) v
      if d ≤ 2 * Dz01.QUARTER ∧ x.2.magnitude ≤ 100000 then some (x.1, d) else none)).foldr Dz01.insertHit []).head? = _
  rw [ef]
  refine head_min (List.mem_map.mpr ⟨(j, x), List.mem_iff_getElem?.mpr ⟨j, by rw [numbered_get, hj]; rfl⟩, rfl⟩) fun p hp => ?_
  obtain ⟨⟨i, y⟩, hi, rfl⟩ := List.mem_map.mp hp
  have k := numbered_mem hi
  have a := hmin i y k
  unfold hitLe
  by_cases c : i < j
  · exact .inl (hfirst i y c k)
  · show Dz01.separation (Dz01.place x t) v < Dz01.separation (Dz01.place y t) v ∨ (Dz01.separation (Dz01.place x t) v = Dz01.separation (Dz01.place y t) v ∧ j ≤ i)
    omega
end
section
variable {P : Program} {w : World} {K : PySem.W.Frag} {mg : Str → Option Value} {base : Heap} {Ts : List (Addr × Str)} {Ct Cs : Addr}
/-! ### searches -/
/-- the loop over an enumerate -/
theorem for_enum0 {K : PySem.W.Frag} {a : Addr} {xs : List V} {g : TG} {tb : TS} {D : Ends} {σ : L2.St} {H : Hp} (Pv : Nat → L2.St → Hp → Prop) (h0 : Pv 0 σ H) (hq : ∀ i σ H, Pv i σ H → SqL K H a xs)
    (hs : ∀ (i : Nat) (y : V) (T : Addr) (σ : L2.St) (H : Hp), xs[i]? = some y → Pv i σ H → H T = none → g (.ref T) σ (upd H T (.tup [.int (i : Nat), y])) fun σ2 H2 => tb { D with nx := Pv (i + 1), ct := Pv (i + 1), bk := D.nx } σ2 H2) (hd : ∀ σ H, Pv xs.length σ H → D.nx σ H) :
    ∃ W : Nat → Nat → L2.St → Hp → Prop, (∃ m, W 0 m σ H) ∧ ∀ i m σ H, W i m σ H →
      ((Ite K a).stop i H ∧ D.nx σ H) ∨ ((Ite K a).go i H ∧ ∃ N : L2.St → Hp → Prop, (∀ σ' H', N σ' H' → ∃ m', m' < m ∧ W (i + 1) m' σ' H') ∧ ∀ v H', (Ite K a).yld i H v H' → g v σ H' fun σ2 H2 => tb { D with nx := N, ct := N, bk := D.nx } σ2 H2) := by
  refine ⟨fun i m σ H => m = xs.length - i ∧ i ≤ xs.length ∧ Pv i σ H, ⟨xs.length, rfl, Nat.zero_le _, h0⟩, ?_⟩
  rintro i m σ H ⟨rfl, hi, p⟩
  have qx := hq i σ H p
  by_cases hlt : i < xs.length
  · have hx : xs[i]? = some xs[i] := List.getElem?_eq_getElem hlt
    refine .inr ⟨⟨xs, _, qx, hx⟩, Pv (i + 1), fun σ' H' p' => ⟨xs.length - (i + 1), by omega, rfl, hlt, p'⟩, fun v H' y => ?_⟩
    obtain ⟨T, x', rfl, hT, rfl, f1⟩ := y
    exact hs i x' T σ H (f1 xs qx) p hT
  · have e : i = xs.length := by omega
    subst e
    exact .inl ⟨⟨xs, qx, by omega⟩, hd σ H p⟩
def refs (as : List Addr) : List V := as.map V.ref
theorem refs_get {as : List Addr} {i : Nat} {a : Addr} (h : as[i]? = some a) : (refs as)[i]? = some (.ref a) := by
  unfold refs
  rw [List.getElem?_map, h]
  rfl
theorem refs_len (as : List Addr) : (refs as).length = as.length := List.length_map ..
theorem refs_snoc (as : List Addr) (a : Addr) : refs (as ++ [a]) = refs as ++ [.ref a] := List.map_append
/-- a stored list that is changed -/
theorem Up.mut {H H1 : Hp} {D : Addr} {xs ys : List V} (u : Up Ts H H1) (n : Nw H D) (h : H1 D = some (.lst xs)) : Up Ts H (upd H1 D (.lst ys)) := by
  refine ⟨fun b o e z => ?_, fun p hp => ?_⟩
  · by_cases c : b = D
    · subst c
      obtain ⟨ps, w⟩ := n o e
      exact absurd w (z ps)
    · rw [upd_ne c]
      exact u.1 b o e z
  · obtain ⟨ps, e1, e2, e3⟩ := u.2 p hp
    refine ⟨ps, ?_, e2, fun pos cv z => ?_⟩
    rotate_left
    · obtain ⟨c, w1, w2⟩ := e3 pos cv z
      refine ⟨c, w1, ?_⟩
      rw [upd_ne (fun z => by rw [z, h] at w2; cases w2)]
      exact w2
    have c : p.1 ≠ D := fun z => by
      rw [z, h] at e1
      cases e1
    rw [upd_ne c]
    exact e1
def StarsL (Ct : Addr) (H : Hp) (as : List Addr) (ss : List Dz01.Star) : Prop := as.length = ss.length ∧ ∀ (i : Nat) (x : Dz01.Star), ss[i]? = some x → ∃ a, as[i]? = some a ∧ StarAt Ct H a x
theorem StarsL.up {H H1 : Hp} {as : List Addr} {ss : List Dz01.Star} (h : StarsL Ct H as ss) (u : Up Ts H H1) : StarsL Ct H1 as ss := ⟨h.1, fun i x e => by
  obtain ⟨a, e1, e2⟩ := h.2 i x e
  exact ⟨a, e1, e2.up u⟩⟩
/-- tuples of ints -/
def TupsL (H : Hp) (as : List Addr) (l : List (List Int)) : Prop := as.length = l.length ∧ ∀ (i : Nat) (h : List Int), l[i]? = some h → ∃ a, as[i]? = some a ∧ H a = some (.tup (vi h))
theorem TupsL.up {H H1 : Hp} {as : List Addr} {l : List (List Int)} (h : TupsL H as l) (u : Up Ts H H1) : TupsL H1 as l := ⟨h.1, fun i x e => by
  obtain ⟨a, e1, e2⟩ := h.2 i x e
  exact ⟨a, e1, u.tup e2⟩⟩
theorem TupsL.mut {H : Hp} {as : List Addr} {l : List (List Int)} {D : Addr} {xs ys : List V} (h : TupsL H as l) (k : H D = some (.lst xs)) : TupsL (upd H D (.lst ys)) as l := ⟨h.1, fun i x e => by
  obtain ⟨a, e1, e2⟩ := h.2 i x e
  refine ⟨a, e1, ?_⟩
  rw [upd_ne (fun z => by rw [z, k] at e2; cases e2)]
  exact e2⟩
theorem TupsL.nil (H : Hp) : TupsL H [] [] := ⟨rfl, fun i x e => by cases e⟩
theorem TupsL.snoc {H : Hp} {as : List Addr} {l : List (List Int)} {a : Addr} {t : List Int} (h : TupsL H as l) (k : H a = some (.tup (vi t))) : TupsL H (as ++ [a]) (l ++ [t]) := by
  refine ⟨by rw [List.length_append, List.length_append, h.1]; rfl, fun i x e => ?_⟩
  by_cases c : i < l.length
  · rw [List.getElem?_append_left c] at e
    obtain ⟨b, e1, e2⟩ := h.2 i x e
    exact ⟨b, by rw [List.getElem?_append_left (by rw [h.1]; exact c)]; exact e1, e2⟩
  · rw [List.getElem?_append_right (by omega)] at e
    have e0 : i - l.length = 0 := by
      by_cases z : i - l.length = 0
      · exact z
      · rw [List.getElem?_eq_none (by show 1 ≤ _; omega)] at e
        cases e
    rw [e0] at e
    have e' : t = x := Option.some.inj e
    subst e'
    refine ⟨a, ?_, k⟩
    rw [List.getElem?_append_right (by rw [h.1]; omega), h.1, e0]
    rfl
def hitT (h : Dz01.Hit) : List Int := [h.2, (h.1 : Int)]
/-- the hits among some numbered stars -/
def hitF (v : Dz01.Vec) (radius limit t : Int) : Nat × Dz01.Star → Option Dz01.Hit := fun x => let d := Dz01.separation (Dz01.place x.2 t) v
  if d ≤ radius ∧ x.2.magnitude ≤ limit then some (x.1, d) else none
theorem cone_eq (ss : List Dz01.Star) (v : Dz01.Vec) (radius limit t : Int) : Dz01.cone ss v radius limit t = ((Dz01.numbered ss).filterMap (hitF v radius limit t)).foldr Dz01.insertHit [] := rfl
theorem fm_take {β : Type} {ss : List Dz01.Star} {k : Nat} {x : Dz01.Star} {f : Nat × Dz01.Star → Option β} (h : ss[k]? = some x) : ((Dz01.numbered ss).take (k + 1)).filterMap f = ((Dz01.numbered ss).take k).filterMap f ++ (f (k, x)).toList := by
  rw [numbered_take ss h, List.filterMap_append]
  cases e : f (k, x) with
  | none =>
    rw [List.filterMap_cons, e]
    rfl
  | some y =>
    rw [List.filterMap_cons, e]
    rfl
theorem fm_len {β : Type} {ss : List Dz01.Star} {k : Nat} {f : Nat × Dz01.Star → Option β} : (((Dz01.numbered ss).take k).filterMap f).length ≤ ss.length := by
  have a := List.length_filterMap_le f ((Dz01.numbered ss).take k)
  have b := List.length_take_le' k (Dz01.numbered ss)
  rw [numbered_len] at b
  omega
/-- sorted pairs are the hits in order -/
theorem sorted_hits {H : Hp} {as : List Addr} {l : List Dz01.Hit} {ys : List V} {k : V → Int × Int} (hk : ∀ (i : Nat) (a : Addr) (h : Dz01.Hit), as[i]? = some a → l[i]? = some h → k (.ref a) = (h.2, (h.1 : Int))) (T : TupsL H as (l.map hitT)) (s : SrtO.Srtd (ltP k) ys) (p : ys.Perm (refs as)) :
    ∃ bs, ys = refs bs ∧ TupsL H bs ((l.foldr Dz01.insertHit []).map hitT) := by
  have hl : as.length = l.length := by
    have := T.1
    rw [List.length_map] at this
    exact this
  have mem : ∀ y ∈ ys, ∃ (i : Nat) (a : Addr) (h : Dz01.Hit), y = .ref a ∧ as[i]? = some a ∧ l[i]? = some h ∧ k (.ref a) = (h.2, (h.1 : Int)) ∧ H a = some (.tup (vi (hitT h))) := by
    intro y hy
    obtain ⟨a, ha, rfl⟩ := List.mem_map.mp (p.mem_iff.mp hy)
    obtain ⟨i, e⟩ := List.mem_iff_getElem?.mp ha
    have hi : i < l.length := by
      rw [← hl]
      exact (List.getElem?_eq_some_iff.mp e).1
    have e2 : l[i]? = some l[i] := List.getElem?_eq_getElem hi
    obtain ⟨b, e3, e4⟩ := T.2 i (hitT l[i]) (by rw [List.getElem?_map, e2]; rfl)
    rw [e] at e3
    cases e3
    exact ⟨i, a, _, rfl, e, e2, hk i a _ e e2, e4⟩
  let c : V → Dz01.Hit := fun y => ((k y).2.toNat, (k y).1)
  have pc : (ys.map c).Perm l := by
    have e : (refs as).map c = l := by
      refine List.ext_getElem? fun i => ?_
      unfold refs
      rw [List.getElem?_map, List.getElem?_map]
      by_cases h : i < l.length
      · have e1 : as[i]? = some (as[i]'(by omega)) := List.getElem?_eq_getElem _
        have e2 : l[i]? = some l[i] := List.getElem?_eq_getElem h
        rw [e1, e2]
        show some ((k (.ref _)).2.toNat, (k (.ref _)).1) = _
        rw [hk i _ _ e1 e2]
        rfl
      · rw [List.getElem?_eq_none (l := as) (by omega), List.getElem?_eq_none (l := l) (by omega)]
        rfl
    rw [← e]
    exact p.map c
  have kc : ∀ y ∈ ys, k y = ((c y).2, ((c y).1 : Int)) := fun y hy => by
    obtain ⟨i, a, h, rfl, _, _, e, _⟩ := mem y hy
    show k (.ref a) = ((k (.ref a)).1, (((k (.ref a)).2.toNat : Nat) : Int))
    rw [e]
    rfl
  have sc : List.Pairwise hitLe (ys.map c) := by
    rw [List.pairwise_map]
    refine List.Pairwise.imp_of_mem (fun {x y} hx hy h => ?_) s
    have h' : SrtO.lexB (k y) (k x) = false := h
    rw [kc x hx, kc y hy] at h'
    unfold SrtO.lexB at h'
    unfold hitLe
    dsimp only at h'
    split at h'
    · have := of_decide_eq_false h'
      omega
    · have := of_decide_eq_false h'
      omega
  have ee : ys.map c = l.foldr Dz01.insertHit [] := List.Perm.eq_of_pairwise (fun a b _ _ => hitLe_anti) sc (fold_sorted l) (pc.trans (fold_perm l).symm)
  have eb : ∃ bs, ys = refs bs := by
    clear ee sc kc pc c s p
    induction ys with
    | nil => exact ⟨[], rfl⟩
    | cons y ys ih =>
      obtain ⟨i, a, h, rfl, _⟩ := mem y (List.mem_cons_self ..)
      obtain ⟨bs, rfl⟩ := ih fun z hz => mem z (List.mem_cons_of_mem _ hz)
      exact ⟨a :: bs, rfl⟩
  obtain ⟨bs, rfl⟩ := eb
  refine ⟨bs, rfl, ?_, fun i h e => ?_⟩
  · rw [← ee, List.length_map, List.length_map, refs_len]
  · rw [← ee, List.map_map, List.getElem?_map] at e
    unfold refs at e
    rw [List.getElem?_map] at e
    cases q : bs[i]? with
    | none =>
      rw [q] at e
      cases e
    | some b =>
      rw [q] at e
      refine ⟨b, rfl, ?_⟩
      have hb : V.ref b ∈ refs bs := List.mem_map.mpr ⟨b, List.mem_of_getElem? q, rfl⟩
      obtain ⟨j, a, g, ea, _, _, e1, e2⟩ := mem _ hb
      cases ea
      have e3 : hitT (c (.ref b)) = h := Option.some.inj e
      have e4 : c (.ref b) = g := by
        show ((k (.ref b)).2.toNat, (k (.ref b)).1) = g
        rw [e1]
        rfl
      rw [← e3, e4]
      exact e2
end
section
variable {P : Program} {w : World} {K : PySem.W.Frag} {mg : Str → Option Value} {base : Heap} {Ts : List (Addr × Str)} {Ct Cs : Addr}
theorem VArg.up {M : Int} {H H1 : Hp} {a : V} {v : Dz01.Vec} (h : VArg M H a v) (u : Up Ts H H1) : VArg M H1 a v := by
  obtain ⟨p, e, h1, h2⟩ := h
  exact ⟨p, e, u.tup h1, h2⟩
theorem sc_found_stars : FnScope ["stars", "vector", "radius", "limit", "t", "found", "number", "star", "angle"] ["stars", "vector", "radius", "limit", "t"] (defScope (top 75)) := ⟨rfl, rfl, rfl, by decide +kernel, rfl, by decide +kernel, by decide +kernel⟩
def spFound (Ts : List (Addr × Str)) (Ct : Addr) : Sp := fun vs H Q _ => ∃ (l : Addr) (as : List Addr) (b : V) (v : Dz01.Vec) (radius limit t : Int) (ss : List Dz01.Star), vs = [.ref l, b, .int radius, .int limit, .int t] ∧ H l = some (.lst (refs as)) ∧ StarsL Ct H as ss ∧ ss.length ≤ 60 ∧ VArg (10 ^ 20) H b v ∧ Bx 10000000000 t ∧ Tabs Ts H ∧
  ∀ H' q bs, Up Ts H H' → Nw H q → H' q = some (.lst (refs bs)) → TupsL H' bs ((Dz01.cone ss v radius limit t).map hitT) → Q (.ref q) H'
def pairOf (H : Hp) : V → Int × Int
  | .ref a => match H a with
    | some (.tup [.int m, .int n]) => (m, n)
    | _ => (0, 0)
  | _ => (0, 0)
theorem pairOf_t {H : Hp} {a : Addr} {m n : Int} (h : H a = some (.tup [.int m, .int n])) : pairOf H (.ref a) = (m, n) := by
  unfold pairOf
  dsimp only
  rw [h]
theorem has_found_stars (C : Ctx P w K mg base Ts Ct Cs) : Has P w K mg base "found_stars" 11 ["stars", "vector", "radius", "limit", "t"] (spFound Ts Ct) := by
  refine has_of C.t.d_found_stars sc_found_stars (fun vs H Q E h => by obtain ⟨a, _, b, _, c, d, e, _, rfl, _⟩ := h; rfl) (fun _ _ _ _ _ _ us hl => match us, hl with | [_, _, _, _, _], _ => rfl) fun f cdv A outer s H vs Q E hr h => ⟨_, (pss_cons (ps_set (i := 5) sc_found_stars.nd rfl (Or.inl rfl) (pe_lst pa_nil)) (pss_cons (ps_for PassesOwn.never rfl (pi_enum (by rfl) C.t.enumerate_ (pa_cons (pv 0) pa_nil)) (pg_tup rfl (pgs_cons (pg_name (i := 6) sc_found_stars.nd rfl (Or.inl rfl)) (pgs_cons (pg_name (i := 7) sc_found_stars.nd rfl (Or.inl rfl)) pgs_nil))) (pss_one (ps_if (pt_cmpR op_le (pe_fld (pv 7) rfl) (pv 3) (nomark _)) (pss_cons (ps_set (i := 8) sc_found_stars.nd rfl (Or.inl rfl) (pe_h (has_separation_of C) (hr.mono (by decide)) rfl (pa_cons (pe_h (has_place_vector C) (hr.mono (by decide)) rfl (pa_cons (pv 7) (pa_cons (pv 4) pa_nil))) (pa_cons (pv 1) pa_nil)))) (pss_one (ps_if (pt_cmpR op_le (pv 8) (pv 2) (nomark _)) (pss_one (ps_expr (pe_bm PySem.F.plainAttrs_list PySem.F.slot_list_append PySem.F.type_list_append mt_append (pv 5) (pa_cons (pe_tup (pa_cons (pv 8) (pa_cons (pv 6) pa_nil))) pa_nil)))) pss_nil))) pss_nil))) (pss_one (ps_ret (pe_callB cr_sortedPO (by rfl) C.t.sorted_ (by decide +kernel) (pa_cons (pv 5) pa_nil)))))), ?_⟩
  obtain ⟨l, as, b, v, radius, limit, t, ss, rfl, hl, hs, hn, hv, tt, tb, q⟩ := h
  walk_at "rx"
  refine ⟨by show 0 ≤ sizeLine; decide, fun D hD => ?_⟩
  walk_at "rx"
  refine rd_for ?_
  walk_at "rx"
  have nD := Nw.of hD
  refine ⟨l, refs as, rfl, SqL.of (by rw [upd_ne (ne_of_none hl hD)]; exact hl), for_enum0 (xs := refs as) (fun i σ H' => ∃ (bs : List Addr) (v6 v7 v8 : Option V), σ = [some (.ref l), some b, some (.int radius), some (.int limit), some (.int t), some (.ref D), v6, v7, v8] ∧ Up Ts H H' ∧ H' D = some (.lst (refs bs)) ∧ TupsL H' bs ((((Dz01.numbered ss).take i).filterMap (hitF v radius limit t)).map hitT))
    ⟨[], none, none, none, rfl, Up.new tb hD, upd_same, TupsL.nil _⟩ ?_ ?_ ?_⟩
  · rintro i σ H' ⟨bs, v6, v7, v8, rfl, u, hD', T⟩
    exact SqL.of (u.lst hl)
  · rintro i y p σ H' hy ⟨bs, v6, v7, v8, rfl, u, hD', T⟩ hp
    have hi : i < ss.length := by
      have := (List.getElem?_eq_some_iff.mp hy).1
      rw [refs_len, hs.1] at this
      exact this
    have hx : ss[i]? = some ss[i] := List.getElem?_eq_getElem hi
    generalize ss[i] = x at hx
    obtain ⟨a, ha, sx⟩ := hs.2 i x hx
    rw [refs_get ha] at hy
    cases hy
    have u1 := u.new2 (o := .tup [.int (i : Nat), .ref a]) hp
    have sx1 := sx.up u1
    obtain ⟨⟨dx, na, ea, en⟩, ok⟩ := id sx1
    have eD1 : upd H' p (.tup [.int (i : Nat), .ref a]) D = some (.lst (refs bs)) := by
      rw [upd_ne (ne_of_none hD' hp)]
      exact hD'
    have T1 : TupsL (upd H' p (.tup [.int (i : Nat), .ref a])) bs _ := T.up (Up.new (o := .tup [.int (i : Nat), .ref a]) u.2 hp)
    refine rd_unp2 (SqT.of upd_same) ?_
    walk_at "rx"
    refine ⟨a, Ct, dx, _, _, rfl, ea, C.star.cl, C.star.na _ (by decide), rfl, ?_⟩
    walk_at "rx"
    generalize upd H' p (.tup [.int (i : Nat), .ref a]) = H1 at *
    have fk := fm_take (f := hitF v radius limit t) hx
    have fl := fm_len (ss := ss) (k := i) (f := hitF v radius limit t)
    refine rd_d (fun c => ?_) (fun c => ?_)
    · walk_at "rx"
      refine ⟨a, x, t, rfl, sx1, tt, u1.2, fun H2 p2 u2 e2 => ?_⟩
      walk_at "rx"
      refine ⟨.ref p2, b, _, v, rfl, ⟨p2, rfl, e2, place_vb x t⟩, hv.up (u1.trans u2), u2.2, fun H3 u3 => ?_⟩
      walk_at "rx"
      have eD3 := u3.lst (u2.lst eD1)
      have T3 := (T1.up u2).up u3
      have U3 := u1.trans (u2.trans u3)
      refine rd_d (fun c2 => ?_) (fun c2 => ?_)
      · walk_at "rx"
        refine ⟨.inl ⟨rfl, _, SqL.of eD3⟩, ?_⟩
        walk_at "rx"
        refine ⟨by show 2 ≤ sizeLine; decide, fun p4 h4 => ?_⟩
        walk_at "rx"
        have eD4 : upd H3 p4 (.tup [.int (Dz01.separation (Dz01.place x t) v), .int (i : Nat)]) D = some (.lst (refs bs)) := by
          rw [upd_ne (ne_of_none eD3 h4)]
          exact eD3
        have T4 := T3.up (Up.new (o := .tup [.int (Dz01.separation (Dz01.place x t) v), .int (i : Nat)]) U3.2 h4)
        have bl : bs.length < 1000 := by
          have := T.1
          rw [List.length_map] at this
          omega
        refine ⟨D, refs bs, .ref p4, rfl, rfl, eD4, Nat.lt_of_lt_of_le (by rw [refs_len]; exact bl) (by decide), ?_⟩
        refine ⟨bs ++ [p4], _, _, _, rfl, (U3.new2 h4).mut nD eD4, by rw [upd_same, refs_snoc], ?_⟩
        have eh : hitF v radius limit t (i, x) = some (i, Dz01.separation (Dz01.place x t) v) := if_pos ⟨c2, c⟩
        rw [fk, eh]
        show TupsL _ _ (List.map hitT (_ ++ [(i, Dz01.separation (Dz01.place x t) v)]))
        rw [List.map_append]
        exact (T4.snoc (t := hitT (i, Dz01.separation (Dz01.place x t) v)) upd_same).mut (by exact eD4)
      · walk_at "rx"
        refine ⟨bs, _, _, _, rfl, U3, eD3, ?_⟩
        have eh : hitF v radius limit t (i, x) = none := if_neg fun z => c2 z.1
        rw [fk, eh]
        show TupsL _ _ (List.map hitT (_ ++ []))
        rw [List.append_nil]
        exact T3
    · walk_at "rx"
      refine ⟨bs, _, _, _, rfl, u1, eD1, ?_⟩
      have eh : hitF v radius limit t (i, x) = none := if_neg fun z => c z.2
      rw [fk, eh]
      show TupsL _ _ (List.map hitT (_ ++ []))
      rw [List.append_nil]
      exact T1
  · rintro σ H' ⟨bs, v6, v7, v8, rfl, u, hD', T⟩
    rw [refs_len, hs.1, ← numbered_len, List.take_length] at T
    walk_at "rx"
    refine ⟨D, refs bs, pairOf H', rfl, SqL.of hD', fun x hx => ?_, fun ys p srt stb hp => ?_⟩
    · obtain ⟨a, ha, rfl⟩ := List.mem_map.mp hx
      obtain ⟨i, e⟩ := List.mem_iff_getElem?.mp ha
      have hi : i < (((Dz01.numbered ss).filterMap (hitF v radius limit t)).map hitT).length := by
        rw [← T.1]
        exact (List.getElem?_eq_some_iff.mp e).1
      obtain ⟨b', e3, e4⟩ := T.2 i _ (List.getElem?_eq_getElem hi)
      rw [e] at e3
      cases e3
      rw [List.getElem_map] at e4
      refine ⟨a, rfl, ?_⟩
      rw [pairOf_t e4]
      exact e4
    · obtain ⟨cs, rfl, T2⟩ := sorted_hits (H := H') (as := bs) (l := (Dz01.numbered ss).filterMap (hitF v radius limit t)) (k := pairOf H') (fun i a h e1 e2 => by
          obtain ⟨b', e3, e4⟩ := T.2 i (hitT h) (by rw [List.getElem?_map, e2]; rfl)
          rw [e1] at e3
          cases e3
          exact pairOf_t e4) T srt stb.perm
      rw [← cone_eq] at T2
      exact q _ p cs (u.new2 hp) (Nw.back u (Nw.of hp)) upd_same (T2.up (Up.new u.2 hp))
end
section
variable {P : Program} {w : World} {K : PySem.W.Frag} {mg : Str → Option Value} {base : Heap} {Ts : List (Addr × Str)} {Ct Cs : Addr}
def vl (u : Dz01.Vec) : List Int := [u.x, u.y, u.z]
def VecsL (H : Hp) (ps : List Addr) (us : List Dz01.Vec) : Prop := TupsL H ps (us.map vl) ∧ ∀ u ∈ us, VB (10 ^ 20) u
theorem VecsL.get {H : Hp} {ps : List Addr} {us : List Dz01.Vec} {i : Nat} {u : Dz01.Vec} (h : VecsL H ps us) (e : us[i]? = some u) : ∃ p, ps[i]? = some p ∧ VArg (10 ^ 20) H (.ref p) u := by
  obtain ⟨p, e1, e2⟩ := h.1.2 i (vl u) (by rw [List.getElem?_map, e]; rfl)
  exact ⟨p, e1, p, rfl, e2, h.2 u (List.mem_of_getElem? e)⟩
theorem VecsL.len {H : Hp} {ps : List Addr} {us : List Dz01.Vec} (h : VecsL H ps us) : ps.length = us.length := by
  rw [h.1.1, List.length_map]
theorem VecsL.up {H H1 : Hp} {ps : List Addr} {us : List Dz01.Vec} (h : VecsL H ps us) (u : Up Ts H H1) : VecsL H1 ps us := ⟨h.1.up u, h.2⟩
theorem get_lt {α : Type} {l : List α} {i : Nat} {x : α} (h : l[i]? = some x) : i < l.length := (List.getElem?_eq_some_iff.mp h).1
theorem take_snoc {α : Type} {l : List α} {i : Nat} {x : α} (h : l[i]? = some x) : l.take (i + 1) = l.take i ++ [x] := by
  rw [List.take_add_one, h]
  rfl
theorem sc_squares_from : FnScope ["vector", "others", "other"] ["vector", "others"] (defScope (top 76)) := ⟨rfl, rfl, rfl, by decide +kernel, rfl, by decide +kernel, by decide +kernel⟩
def spSq (Ts : List (Addr × Str)) : Sp := fun vs H Q _ => ∃ (b : V) (v : Dz01.Vec) (l : Addr) (ps : List Addr) (us : List Dz01.Vec), vs = [b, .ref l] ∧ VArg (10 ^ 20) H b v ∧ H l = some (.lst (refs ps)) ∧ VecsL H ps us ∧ us.length ≤ 60 ∧ Tabs Ts H ∧ RetI Ts H Q (us.map fun u => dsq v u)
theorem has_squares_from (C : Ctx P w K mg base Ts Ct Cs) : Has P w K mg base "squares_from" 2 ["vector", "others"] (spSq Ts) := by
  refine has_of C.t.d_squares_from sc_squares_from (fun vs H Q E h => by obtain ⟨a, _, b, _, _, rfl, _⟩ := h; rfl) (fun _ _ _ _ _ _ us hl => match us, hl with | [_, _], _ => rfl) fun f cdv A outer s H vs Q E hr h => ⟨_, (pss_one (ps_ret (pe_lc (own := [("other", 2)]) rfl sc_squares_from.nd (pi_list (pv 1)) (blkOk_by (N := ["vector", "others", "other"]) (sc := defScope (top 76)) (by decide +kernel)) (fun _ _ _ _ _ => (pg_name (i := 2) sc_squares_from.nd rfl (Or.inl rfl) )) (fun _ _ _ _ _ => pts_nil) (fun _ _ _ _ _ => (pe_h (has_square_of_distance C) (hr.mono (by decide)) rfl (pa_cons (pv 0) (pa_cons (pv 2) pa_nil))))))), ?_⟩
  obtain ⟨b, v, l, ps, us, rfl, hv, hl, hu, hn, tb, q⟩ := h
  walk_at "rx"
  refine ⟨⟨refs ps, SqL.of hl⟩, fun D hD => ?_⟩
  have nD := Nw.of hD
  refine lc_list (xs := refs ps) (fun i H' => Up Ts H H' ∧ H' D = some (.lst (vi ((us.take i).map fun u => dsq v u)))) ⟨Up.new tb hD, upd_same⟩ ?_ ?_ ?_
  · rintro i H' hi ⟨u, hD'⟩
    exact SqL.of (u.lst hl)
  · rintro i y H' hy ⟨u, hD'⟩
    have hi : i < us.length := by
      have := get_lt hy
      rw [refs_len, hu.len] at this
      exact this
    have hx : us[i]? = some us[i] := List.getElem?_eq_getElem hi
    generalize us[i] = x at hx
    obtain ⟨p, hp, vp⟩ := hu.get hx
    rw [refs_get hp] at hy
    cases hy
    walk_at "rx"
    refine ⟨rfl, ?_⟩
    walk_at "rx"
    refine ⟨b, .ref p, v, x, rfl, hv.up u, vp.up u, u.2, fun H2 u2 => ?_⟩
    refine ⟨_, u2.lst hD', ?_, (u.trans u2).mut nD (u2.lst hD'), ?_⟩
    · rw [vi_len, List.length_map]
      exact Nat.lt_of_lt_of_le (Nat.lt_of_le_of_lt (List.length_take_le' ..) (show us.length < 1000 by omega)) (by decide)
    · rw [upd_same, take_snoc hx, List.map_append, vi_snoc_map]
      rfl
  · rintro H' ⟨u, hD'⟩
    rw [refs_len, hu.len, List.take_length] at hD'
    exact q H' D u nD hD'
theorem sc_nearest_number : FnScope ["squares", "separation", "number"] ["squares"] (defScope (top 77)) := ⟨rfl, rfl, rfl, by decide +kernel, rfl, by decide +kernel, by decide +kernel⟩
def spNear (Ts : List (Addr × Str)) : Sp := fun vs H Q _ => ∃ (l : Addr) (ds : List Int), vs = [.ref l] ∧ H l = some (.lst (vi ds)) ∧ (∀ d ∈ ds, 0 ≤ d ∧ d ≤ 10 ^ 50) ∧ 0 < ds.length ∧ Tabs Ts H ∧
  ∀ (H' : Hp) (j : Nat) (d : Int), Up Ts H H' → ds[j]? = some d → (∀ (i : Nat) (e : Int), ds[i]? = some e → sepAt d ≤ sepAt e) → (∀ (i : Nat) (e : Int), i < j → ds[i]? = some e → sepAt d < sepAt e) → Q (.int (j : Nat)) H'
theorem has_nearest_number (C : Ctx P w K mg base Ts Ct Cs) : Has P w K mg base "nearest_number" 10 ["squares"] (spNear Ts) := by
  refine has_of C.t.d_nearest_number sc_nearest_number (fun vs H Q E h => by obtain ⟨a, _, rfl, _⟩ := h; rfl) (fun _ _ _ _ _ _ us hl => match us, hl with | [_], _ => rfl) fun f cdv A outer s H vs Q E hr h => ⟨_, (pss_cons (ps_set (i := 1) sc_nearest_number.nd rfl (Or.inl rfl) (pe_h (has_separation_at C) (hr.mono (by decide)) rfl (pa_cons (pe_callB (cr_min rfl) (by rfl) C.t.min_ (by decide +kernel) (pa_cons (pv 0) pa_nil)) pa_nil))) (pss_cons (ps_set (i := 2) sc_nearest_number.nd rfl (Or.inl rfl) pe_int) (pss_cons (ps_while PassesOwn.never (pt_not (pt_val (pe_h (has_is_within C) (hr.mono (by decide)) rfl (pa_cons (pe_ix ix_list (pv 0) (pv 2) (fun _ _ => rfl)) (pa_cons (pv 1) pa_nil))))) (pss_one (ps_aug (i := 2) sc_nearest_number.nd rfl (Or.inl rfl) pe_int ip_add))) (pss_one (ps_ret (pv 2)))))), ?_⟩
  obtain ⟨l, ds, rfl, hl, hd, h0, tb, q⟩ := h
  walk_at "rx"
  refine ⟨l, ds, rfl, SqL.of hl, h0, fun m hm hmin => ?_⟩
  walk_at "rx"
  refine rd_g1 (hd m hm) tb fun H1 u => ?_
  walk_at "rx"
  obtain ⟨M, hM⟩ := List.mem_iff_getElem?.mp hm
  refine ⟨fun n σ H' => H' = H1 ∧ ∃ k : Nat, σ = [some (.ref l), some (.int (sepAt m)), some (.int (k : Nat))] ∧ k ≤ M ∧ (∀ (i : Nat) (e : Int), i < k → ds[i]? = some e → sepAt m < sepAt e) ∧ n = M - k, ⟨M, rfl, 0, rfl, Nat.zero_le _, fun i e z => absurd z (Nat.not_lt_zero _), rfl⟩, ?_⟩
  rintro n σ H' ⟨rfl, k, rfl, k1, k2, rfl⟩
  have hk : k < ds.length := Nat.lt_of_le_of_lt k1 (get_lt hM)
  have hx : ds[k]? = some ds[k] := List.getElem?_eq_getElem hk
  generalize ds[k] = x at hx
  have hxm : x ∈ ds := List.mem_of_getElem? hx
  have hvx : (vi ds)[k]? = some (.int x) := by
    unfold vi
    rw [List.getElem?_map, hx]
    rfl
  walk_at "rx"
  refine ⟨l, vi ds, (k : Nat), _, rfl, rfl, SqL.of (u.lst hl), at_of rfl hvx, ?_⟩
  walk_at "rx"
  refine rd_f2 ⟨(hd x hxm).1, (sepAt_bd m).1⟩ ?_
  walk_at "rx"
  refine rd_nd (fun c => ?_) (fun c => ?_)
  · have hkM : k ≠ M := fun z => by
      subst z
      rw [hx] at hM
      cases hM
      exact c (Int.le_refl _)
    refine ⟨fun σ H'' => H'' = H' ∧ ∃ k' : Nat, σ = [some (.ref l), some (.int (sepAt m)), some (.int (k' : Nat))] ∧ k' ≤ M ∧ (∀ (i : Nat) (e : Int), i < k' → ds[i]? = some e → sepAt m < sepAt e) ∧ k < k', fun σ H'' ⟨z1, k', z2, z3, z4, z5⟩ => ⟨M - k', by omega, z1, k', z2, z3, z4, rfl⟩, ?_⟩
    walk_at "rx"
    refine ⟨rfl, k + 1, rfl, by omega, fun i e h1 h2 => ?_, by omega⟩
    by_cases h3 : i = k
    · subst h3
      rw [hx] at h2
      cases h2
      omega
    · exact k2 i e (by omega) h2
  · walk_at "rx"
    refine q H' k x u hx (fun i e h => ?_) (fun i e h1 h2 => ?_)
    · have := sepAt_mono (hmin e (List.mem_of_getElem? h))
      omega
    · have := k2 i e h1 h2
      omega
end
section
variable {P : Program} {w : World} {K : PySem.W.Frag} {mg : Str → Option Value} {base : Heap} {Ts : List (Addr × Str)} {Ct Cs : Addr}
/-! ### matching -/
theorem dsq_comm (a b : Dz01.Vec) : dsq a b = dsq b a := by
  unfold dsq
  rw [← Int.neg_sub b.x a.x, ← Int.neg_sub b.y a.y, ← Int.neg_sub b.z a.z, Int.neg_mul_neg, Int.neg_mul_neg, Int.neg_mul_neg]
theorem sep_comm (a b : Dz01.Vec) : Dz01.separation a b = Dz01.separation b a := by
  rw [sep_eq, sep_eq, dsq_comm]
theorem near_of {ss : List Dz01.Star} {v : Dz01.Vec} {t : Int} {j : Nat} {d : Int} (hok : ∀ y ∈ ss, y.magnitude ≤ 99999) (hj : ((ss.map fun y => Dz01.place y t).map fun u => dsq v u)[j]? = some d) (h1 : ∀ (i : Nat) (e : Int), ((ss.map fun y => Dz01.place y t).map fun u => dsq v u)[i]? = some e → sepAt d ≤ sepAt e)
    (h2 : ∀ (i : Nat) (e : Int), i < j → ((ss.map fun y => Dz01.place y t).map fun u => dsq v u)[i]? = some e → sepAt d < sepAt e) : ∃ x, ss[j]? = some x ∧ Dz01.nearest ss v t = some (j, Dz01.separation (Dz01.place x t) v) := by
  rw [List.map_map] at hj h1 h2
  have g : ∀ (i : Nat) (y : Dz01.Star), ss[i]? = some y → (ss.map ((fun u => dsq v u) ∘ fun y => Dz01.place y t))[i]? = some (dsq v (Dz01.place y t)) := fun i y e => by
    rw [List.getElem?_map, e]
    rfl
  rw [List.getElem?_map] at hj
  cases e : ss[j]? with
  | none =>
    rw [e] at hj
    cases hj
  | some x =>
    rw [e] at hj
    have hd : dsq v (Dz01.place x t) = d := Option.some.inj hj
    refine ⟨x, rfl, nearest_eq hok e (fun i y k => ?_) (fun i y c k => ?_)⟩
    · rw [sep_eq, sep_eq, dsq_comm, dsq_comm _ v, hd]
      exact h1 i _ (g i y k)
    · rw [sep_eq, sep_eq, dsq_comm, dsq_comm _ v, hd]
      exact h2 i _ c (g i y k)
theorem nearest_some {ss : List Dz01.Star} {v : Dz01.Vec} {t : Int} (hok : ∀ y ∈ ss, y.magnitude ≤ 99999) (h0 : 0 < ss.length) : ∃ (k : Nat) (e : Int), Dz01.nearest ss v t = some (k, e) := by
  have e0 : ss[0]? = some ss[0] := List.getElem?_eq_getElem h0
  generalize ss[0] = x at e0
  have hm : (0, x) ∈ Dz01.numbered ss := List.mem_iff_getElem?.mpr ⟨0, by rw [numbered_get, e0]; rfl⟩
  have s := (sepAt_bd (dsq (Dz01.place x t) v)).2
  rw [← sep_eq] at s
  have hf : (0, Dz01.separation (Dz01.place x t) v) ∈ (Dz01.numbered ss).filterMap (hitF v (2 * Dz01.QUARTER) 100000 t) :=
    List.mem_filterMap.mpr ⟨(0, x), hm, if_pos ⟨s, by have := hok x (List.mem_of_getElem? e0); show x.magnitude ≤ 100000; omega⟩⟩
  show ∃ (k : Nat) (e : Int), (((Dz01.numbered ss).filterMap (hitF v (2 * Dz01.QUARTER) 100000 t)).foldr Dz01.insertHit []).head? = some (k, e)
  have p := fold_perm ((Dz01.numbered ss).filterMap (hitF v (2 * Dz01.QUARTER) 100000 t))
  generalize ((Dz01.numbered ss).filterMap (hitF v (2 * Dz01.QUARTER) 100000 t)).foldr Dz01.insertHit [] = m at *
  cases m with
  | nil => exact absurd (p.symm.mem_iff.mp hf) (by simp)
  | cons b m => exact ⟨b.1, b.2, rfl⟩
def matF (xs ys : List Dz01.Star) (tol t : Int) : Nat × Dz01.Star → Option (Nat × Nat × Int) := fun x => (Dz01.nearest ys (Dz01.place x.2 t) t).bind fun h => match ys[h.1]? with
  | none => none
  | some y => match Dz01.nearest xs (Dz01.place y t) t with
    | some g => if g.1 = x.1 ∧ h.2 ≤ tol then some (x.1, h.1, h.2) else none
    | none => none
theorem matching_eq (xs ys : List Dz01.Star) (tol t : Int) : Dz01.matching xs ys tol t = (Dz01.numbered xs).filterMap (matF xs ys tol t) := rfl
/-- the number of the nearest star -/
def nix (xs : List Dz01.Star) (t : Int) (y : Dz01.Star) : Int := match Dz01.nearest xs (Dz01.place y t) t with
  | some h => (h.1 : Int)
  | none => 0
theorem matF_eq {xs ys : List Dz01.Star} {tol t : Int} {i j k : Nat} {x y : Dz01.Star} {d e : Int} (h1 : Dz01.nearest ys (Dz01.place x t) t = some (j, d)) (h2 : ys[j]? = some y) (h3 : Dz01.nearest xs (Dz01.place y t) t = some (k, e)) : matF xs ys tol t (i, x) = if k = i ∧ d ≤ tol then some (i, j, d) else none := by
  unfold matF
  dsimp only
  rw [h1]
  dsimp only [Option.bind]
  rw [h2]
  dsimp only
  rw [h3]
def matT (m : Nat × Nat × Int) : List Int := [(m.1 : Int), (m.2.1 : Int), m.2.2]
theorem matching_nil (xs : List Dz01.Star) (tol t : Int) : Dz01.matching xs [] tol t = [] := by
  rw [matching_eq]
  have : ∀ l : List (Nat × Dz01.Star), l.filterMap (matF xs [] tol t) = [] := fun l => by
    induction l with
    | nil => rfl
    | cons a l ih =>
      rw [List.filterMap_cons]
      have e : matF xs [] tol t a = none := rfl
      rw [e]
      exact ih
  exact this _
theorem stars_mag {H : Hp} {as : List Addr} {ss : List Dz01.Star} (h : StarsL Ct H as ss) : ∀ y ∈ ss, y.magnitude ≤ 99999 := fun y hy => by
  obtain ⟨i, e⟩ := List.mem_iff_getElem?.mp hy
  obtain ⟨a, _, _, _, _, ⟨_, m⟩, _⟩ := h.2 i y e
  exact m
theorem dsq_list {us : List Dz01.Vec} {v : Dz01.Vec} (hv : VB (10 ^ 20) v) (hu : ∀ u ∈ us, VB (10 ^ 20) u) : ∀ d ∈ us.map fun u => dsq v u, 0 ≤ d ∧ d ≤ 10 ^ 50 := fun d hd => by
  obtain ⟨u, h, rfl⟩ := List.mem_map.mp hd
  exact dsq_bd hv (hu u h)
theorem places_vb (ss : List Dz01.Star) (t : Int) : ∀ u ∈ ss.map fun y => Dz01.place y t, VB (10 ^ 20) u := fun u hu => by
  obtain ⟨x, _, rfl⟩ := List.mem_map.mp hu
  exact place_vb x t
theorem sc_matches_of : FnScope ["stars", "others", "t", "tolerance", "places", "other_places", "nearest_stars", "matches", "i", "place", "j", "angle", "star", "other"] ["stars", "others", "t", "tolerance"] (defScope (top 78)) := ⟨rfl, rfl, rfl, by decide +kernel, rfl, by decide +kernel, by decide +kernel⟩
def spMatch (Ts : List (Addr × Str)) (Ct : Addr) : Sp := fun vs H Q _ => ∃ (l l2 : Addr) (as bs : List Addr) (t tol : Int) (xs ys : List Dz01.Star), vs = [.ref l, .ref l2, .int t, .int tol] ∧ H l = some (.lst (refs as)) ∧ StarsL Ct H as xs ∧ xs.length ≤ 60 ∧ H l2 = some (.lst (refs bs)) ∧ StarsL Ct H bs ys ∧ ys.length ≤ 60 ∧ Bx 10000000000 t ∧ Tabs Ts H ∧
  ∀ H' q cs, Up Ts H H' → Nw H q → H' q = some (.lst (refs cs)) → TupsL H' cs ((Dz01.matching xs ys tol t).map matT) → Q (.ref q) H'
theorem has_matches_of (C : Ctx P w K mg base Ts Ct Cs) : Has P w K mg base "matches_of" 11 ["stars", "others", "t", "tolerance"] (spMatch Ts Ct) := by
  refine has_of C.t.d_matches_of sc_matches_of (fun vs H Q E h => by obtain ⟨a, b, _, _, c, d, _, _, rfl, _⟩ := h; rfl) (fun _ _ _ _ _ _ us hl => match us, hl with | [_, _, _, _], _ => rfl) fun f cdv A outer s H vs Q E hr h => ⟨_, (pss_cons (ps_if (PW.pt (pw_or (pt_cmpR op_eq (pe_callB call_len_seq (by rfl) C.t.len_ (by decide +kernel) (pa_cons (pv 0) pa_nil)) pe_int (nomark _)) (pw_or1 (pt_cmpR op_eq (pe_callB call_len_seq (by rfl) C.t.len_ (by decide +kernel) (pa_cons (pv 1) pa_nil)) pe_int (nomark _))))) (pss_one (ps_ret (pe_lst pa_nil))) pss_nil) (pss_cons (ps_set (i := 4) sc_matches_of.nd rfl (Or.inr rfl) (pe_lc (own := [("star", 12)]) rfl sc_matches_of.nd (pi_list (pv 0)) (blkOk_by (N := ["stars", "others", "t", "tolerance", "places", "other_places", "nearest_stars", "matches", "i", "place", "j", "angle", "star", "other"]) (sc := defScope (top 78)) (by decide +kernel)) (fun _ _ _ _ _ => (pg_name (i := 12) sc_matches_of.nd rfl (Or.inl rfl) )) (fun _ _ _ _ _ => pts_nil) (fun _ _ _ _ _ => (pe_h (has_place_vector C) (hr.mono (by decide)) rfl (pa_cons (pv 12) (pa_cons (pv 2) pa_nil)))))) (pss_cons (ps_setLc (i := 5) (own := [("other", 13)]) rfl sc_matches_of.nd rfl rfl (sw_true rfl rfl rfl (by decide +kernel)) (pi_list (pv 1)) (blkOk_by (N := ["stars", "others", "t", "tolerance", "places", "other_places", "nearest_stars", "matches", "i", "place", "j", "angle", "star", "other"]) (sc := defScope (top 78)) (by decide +kernel)) (fun _ _ _ _ _ => (pg_name (i := 13) sc_matches_of.nd rfl (Or.inl rfl) )) (fun _ _ _ _ _ => pts_nil) (fun _ _ _ _ _ => (pe_h (has_place_vector C) (hr.mono (by decide)) rfl (pa_cons (pv 13) (pa_cons (pv 2) pa_nil))))) (pss_cons (ps_setLc (i := 6) (own := [("other", 13)]) rfl sc_matches_of.nd rfl rfl (sw_true rfl rfl rfl (by decide +kernel)) (pi_list (pv 5)) (blkOk_by (N := ["stars", "others", "t", "tolerance", "places", "other_places", "nearest_stars", "matches", "i", "place", "j", "angle", "star", "other"]) (sc := defScope (top 78)) (by decide +kernel)) (fun _ _ _ _ _ => (pg_name (i := 13) sc_matches_of.nd rfl (Or.inl rfl) )) (fun _ _ _ _ _ => pts_nil) (fun _ _ _ _ _ => (pe_h (has_nearest_number C) (hr.mono (by decide)) rfl (pa_cons (pe_h (has_squares_from C) (hr.mono (by decide)) rfl (pa_cons (pv 13) (pa_cons (pv 4) pa_nil))) pa_nil)))) (pss_cons (ps_set (i := 7) sc_matches_of.nd rfl (Or.inl rfl) (pe_lst pa_nil)) (pss_cons (ps_for PassesOwn.never rfl (pi_enum (by rfl) C.t.enumerate_ (pa_cons (pv 4) pa_nil)) (pg_tup rfl (pgs_cons (pg_name (i := 8) sc_matches_of.nd rfl (Or.inl rfl)) (pgs_cons (pg_name (i := 9) sc_matches_of.nd rfl (Or.inl rfl)) pgs_nil))) (pss_cons (ps_set (i := 10) sc_matches_of.nd rfl (Or.inl rfl) (pe_h (has_nearest_number C) (hr.mono (by decide)) rfl (pa_cons (pe_h (has_squares_from C) (hr.mono (by decide)) rfl (pa_cons (pv 9) (pa_cons (pv 5) pa_nil))) pa_nil))) (pss_cons (ps_set (i := 11) sc_matches_of.nd rfl (Or.inl rfl) (pe_h (has_separation_of C) (hr.mono (by decide)) rfl (pa_cons (pv 9) (pa_cons (pe_ix ix_list (pv 5) (pv 10) (fun _ _ => rfl)) pa_nil)))) (pss_one (ps_if (PW.pt (pw_and (pt_cmpR op_eq (pe_ix ix_list (pv 6) (pv 10) (fun _ _ => rfl)) (pv 8) (nomark _)) (pw_and1 (pt_cmpR op_le (pv 11) (pv 3) (nomark _))))) (pss_one (ps_expr (pe_bm PySem.F.plainAttrs_list PySem.F.slot_list_append PySem.F.type_list_append mt_append (pv 7) (pa_cons (pe_tup (pa_cons (pv 8) (pa_cons (pv 10) (pa_cons (pv 11) pa_nil)))) pa_nil)))) pss_nil))))) (pss_one (ps_ret (pv 7))))))))), ?_⟩
  obtain ⟨l, l2, as, bs, t, tol, xs, ys, rfl, hl, hs, hn, hl2, hs2, hn2, tt, tb, q⟩ := h
  walk_at "rx"
  refine rd_or2 (b1 := decide (((refs as).length : Int) = 0)) (b2 := decide (((refs bs).length : Int) = 0)) (fun Q1 q1 => ?_) (fun Q1 q1 => ?_) ?_
  · walk_at "rx"
    refine ⟨l, refs as, rfl, .inl (SqL.of hl), ?_⟩
    walk_at "rx"
    exact q1
  · walk_at "rx"
    refine ⟨l2, refs bs, rfl, .inl (SqL.of hl2), ?_⟩
    walk_at "rx"
    exact q1
  refine rd_b (fun c => ?_) (fun c => ?_)
  · walk_at "rx"
    refine ⟨by show 0 ≤ sizeLine; decide, fun p hp => q _ p [] (Up.new tb hp) (Nw.of hp) upd_same ?_⟩
    have e : Dz01.matching xs ys tol t = [] := by
      rw [Bool.or_eq_true] at c
      rcases c with c | c
      · have c1 := of_decide_eq_true c
        rw [refs_len, hs.1] at c1
        have : xs = [] := List.eq_nil_of_length_eq_zero (by omega)
        subst this
        rfl
      · have c1 := of_decide_eq_true c
        rw [refs_len, hs2.1] at c1
        have : ys = [] := List.eq_nil_of_length_eq_zero (by omega)
        subst this
        exact matching_nil xs tol t
    rw [e]
    exact TupsL.nil _
  rw [Bool.or_eq_false_iff] at c
  have c1 := of_decide_eq_false c.1
  have c2 := of_decide_eq_false c.2
  rw [refs_len, hs.1] at c1
  rw [refs_len, hs2.1] at c2
  clear c
  walk_at "rx"
  -- the places of both
  refine ⟨⟨refs as, SqL.of hl⟩, fun D1 hD1 => ?_⟩
  refine lc_list (xs := refs as) (fun i H' => Up Ts H H' ∧ ∃ ps, H' D1 = some (.lst (refs ps)) ∧ VecsL H' ps ((xs.take i).map fun y => Dz01.place y t)) ⟨Up.new tb hD1, [], upd_same, TupsL.nil _, fun u hu => by cases hu⟩ ?_ ?_ ?_
  · rintro i H' hi ⟨u, _⟩
    exact SqL.of (u.lst hl)
  · rintro i y H' hy ⟨u, ps, hD', hv⟩
    have hi : i < xs.length := by
      have := get_lt hy
      rw [refs_len, hs.1] at this
      exact this
    have hx : xs[i]? = some xs[i] := List.getElem?_eq_getElem hi
    generalize xs[i] = x at hx
    obtain ⟨a, ha, sx⟩ := hs.2 i x hx
    rw [refs_get ha] at hy
    cases hy
    walk_at "rx"
    refine ⟨rfl, ?_⟩
    walk_at "rx"
    refine ⟨a, x, t, rfl, sx.up u, tt, u.2, fun H2 p2 u2 e2 => ?_⟩
    have len : ps.length < 1000 := by
      have := hv.len
      rw [List.length_map, List.length_take] at this
      omega
    refine ⟨_, u2.lst hD', Nat.lt_of_lt_of_le (by rw [refs_len]; exact len) (by decide), (u.trans u2).mut (Nw.of hD1) (u2.lst hD'), ps ++ [p2], by rw [upd_same, refs_snoc], ?_, ?_⟩
    · rw [take_snoc hx, List.map_append, List.map_append]
      exact ((hv.1.up u2).snoc (t := vl (Dz01.place x t)) e2).mut (u2.lst hD')
    · exact places_vb _ t
  rintro H1 ⟨u1, ps1, hD1', v1⟩
  rw [refs_len, hs.1, List.take_length] at v1
  walk_at "rx"
  refine ⟨⟨refs bs, SqL.of (u1.lst hl2)⟩, fun D2 hD2 => ?_⟩
  refine lc_list (xs := refs bs) (fun i H' => Up Ts H1 H' ∧ ∃ ps, H' D2 = some (.lst (refs ps)) ∧ VecsL H' ps ((ys.take i).map fun y => Dz01.place y t)) ⟨Up.new u1.2 hD2, [], upd_same, TupsL.nil _, fun u hu => by cases hu⟩ ?_ ?_ ?_
  · rintro i H' hi ⟨u, _⟩
    exact SqL.of (u.lst (u1.lst hl2))
  · rintro i y H' hy ⟨u, ps, hD', hv⟩
    have hi : i < ys.length := by
      have := get_lt hy
      rw [refs_len, hs2.1] at this
      exact this
    have hx : ys[i]? = some ys[i] := List.getElem?_eq_getElem hi
    generalize ys[i] = x at hx
    obtain ⟨a, ha, sx⟩ := hs2.2 i x hx
    rw [refs_get ha] at hy
    cases hy
    walk_at "rx"
    refine ⟨rfl, ?_⟩
    walk_at "rx"
    refine ⟨a, x, t, rfl, (sx.up u1).up u, tt, u.2, fun H2 p2 u2 e2 => ?_⟩
    have len : ps.length < 1000 := by
      have := hv.len
      rw [List.length_map, List.length_take] at this
      omega
    refine ⟨_, u2.lst hD', Nat.lt_of_lt_of_le (by rw [refs_len]; exact len) (by decide), (u.trans u2).mut (Nw.of hD2) (u2.lst hD'), ps ++ [p2], by rw [upd_same, refs_snoc], ?_, ?_⟩
    · rw [take_snoc hx, List.map_append, List.map_append]
      exact ((hv.1.up u2).snoc (t := vl (Dz01.place x t)) e2).mut (u2.lst hD')
    · exact places_vb _ t
  rintro H2 ⟨u2, ps2, hD2', v2⟩
  rw [refs_len, hs2.1, List.take_length] at v2
  have hD1'' := u2.lst hD1'
  have v1' := v1.up u2
  have U2 := u1.trans u2
  clear hD1' v1 u1 u2
  walk_at "rx"
  -- the nearest star of each other one
  refine ⟨⟨refs ps2, SqL.of hD2'⟩, fun D3 hD3 => ?_⟩
  refine lc_list (xs := refs ps2) (fun i H' => Up Ts H2 H' ∧ H' D3 = some (.lst (vi ((ys.take i).map (nix xs t))))) ⟨Up.new U2.2 hD3, upd_same⟩ ?_ ?_ ?_
  · rintro i H' hi ⟨u, _⟩
    exact SqL.of (u.lst hD2')
  · rintro i z H' hz ⟨u, hD'⟩
    have hi : i < ys.length := by
      have := get_lt hz
      rw [refs_len, v2.len, List.length_map] at this
      exact this
    have hx : ys[i]? = some ys[i] := List.getElem?_eq_getElem hi
    generalize ys[i] = y at hx
    have hpy : (ys.map fun y => Dz01.place y t)[i]? = some (Dz01.place y t) := by
      rw [List.getElem?_map, hx]
      rfl
    obtain ⟨p, hp, vp⟩ := v2.get hpy
    rw [refs_get hp] at hz
    cases hz
    walk_at "rx"
    refine ⟨rfl, ?_⟩
    walk_at "rx"
    refine ⟨.ref p, Dz01.place y t, D1, ps1, _, rfl, vp.up u, u.lst hD1'', v1'.up u, by rw [List.length_map]; exact hn, u.2, fun H4 p4 u4 n4 e4 => ?_⟩
    walk_at "rx"
    refine ⟨p4, _, rfl, e4, dsq_list (place_vb y t) (places_vb xs t), by rw [List.length_map, List.length_map]; omega, u4.2, fun H5 j d u5 h1 h2 h3 => ?_⟩
    obtain ⟨x, hx2, hne⟩ := near_of (stars_mag hs) h1 h2 h3
    have en : nix xs t y = (j : Int) := by
      unfold nix
      rw [hne]
    refine ⟨_, u5.lst (u4.lst hD'), ?_, (u.trans (u4.trans u5)).mut (Nw.of hD3) (u5.lst (u4.lst hD')), ?_⟩
    · rw [vi_len, List.length_map]
      exact Nat.lt_of_lt_of_le (Nat.lt_of_le_of_lt (List.length_take_le' ..) (show ys.length < 1000 by omega)) (by decide)
    · rw [upd_same, take_snoc hx, List.map_append, vi_snoc_map]
      show some (HO.lst (_ ++ [V.int (j : Nat)])) = some (HO.lst (_ ++ [V.int (nix xs t y)]))
      rw [en]
  rintro H3 ⟨u3, hD3'⟩
  rw [refs_len, v2.len, List.length_map, List.take_length] at hD3'
  have hD1 := u3.lst hD1''
  have hD2 := u3.lst hD2'
  have w1 := v1'.up u3
  have w2 := v2.up u3
  have U3 := U2.trans u3
  clear hD1'' hD2' v1' v2 u3 U2
  walk_at "rx"
  -- the matches
  refine ⟨by show 0 ≤ sizeLine; decide, fun D4 hD4 => ?_⟩
  walk_at "rx"
  refine rd_for ?_
  walk_at "rx"
  have nD := Nw.of hD4
  refine ⟨D1, refs ps1, rfl, SqL.of (by rw [upd_ne (ne_of_none hD1 hD4)]; exact hD1), for_enum0 (xs := refs ps1) (fun i σ H' => ∃ (cs : List Addr) (v8 v9 v10 v11 : Option V), σ = [some (.ref l), some (.ref l2), some (.int t), some (.int tol), some (.ref D1), some (.ref D2), some (.ref D3), some (.ref D4), v8, v9, v10, v11, none, none] ∧ Up Ts H3 H' ∧ H' D4 = some (.lst (refs cs)) ∧ TupsL H' cs ((((Dz01.numbered xs).take i).filterMap (matF xs ys tol t)).map matT))
    ⟨[], none, none, none, none, rfl, Up.new U3.2 hD4, upd_same, TupsL.nil _⟩ ?_ ?_ ?_⟩
  · rintro i σ H' ⟨cs, v8, v9, v10, v11, rfl, u, hD', T⟩
    exact SqL.of (u.lst hD1)
  · rintro i z p σ H' hz ⟨cs, v8, v9, v10, v11, rfl, u, hD', T⟩ hp
    have hi : i < xs.length := by
      have := get_lt hz
      rw [refs_len, w1.len, List.length_map] at this
      exact this
    have hx : xs[i]? = some xs[i] := List.getElem?_eq_getElem hi
    generalize xs[i] = x at hx
    have hpx : (xs.map fun y => Dz01.place y t)[i]? = some (Dz01.place x t) := by
      rw [List.getElem?_map, hx]
      rfl
    obtain ⟨a, ha, va⟩ := w1.get hpx
    rw [refs_get ha] at hz
    cases hz
    have fk := fm_take (f := matF xs ys tol t) hx
    have fl := fm_len (ss := xs) (k := i) (f := matF xs ys tol t)
    have u1 := u.new2 (o := .tup [.int (i : Nat), .ref a]) hp
    have eD1 : upd H' p (.tup [.int (i : Nat), .ref a]) D4 = some (.lst (refs cs)) := by
      rw [upd_ne (ne_of_none hD' hp)]
      exact hD'
    have T1 : TupsL (upd H' p (.tup [.int (i : Nat), .ref a])) cs _ := T.up (Up.new (o := .tup [.int (i : Nat), .ref a]) u.2 hp)
    refine rd_unp2 (SqT.of upd_same) ?_
    generalize upd H' p (.tup [.int (i : Nat), .ref a]) = H1 at *
    walk_at "rx"
    refine ⟨.ref a, Dz01.place x t, D2, ps2, _, rfl, va.up u1, u1.lst hD2, w2.up u1, by rw [List.length_map]; exact hn2, u1.2, fun H4 p4 u4 n4 e4 => ?_⟩
    walk_at "rx"
    refine ⟨p4, _, rfl, e4, dsq_list (place_vb x t) (places_vb ys t), by rw [List.length_map, List.length_map]; omega, u4.2, fun H5 j d u5 h1 h2 h3 => ?_⟩
    obtain ⟨y, hy, hne⟩ := near_of (stars_mag hs2) h1 h2 h3
    have hpy : (ys.map fun y => Dz01.place y t)[j]? = some (Dz01.place y t) := by
      rw [List.getElem?_map, hy]
      rfl
    obtain ⟨b, hb, vb⟩ := w2.get hpy
    have U5 := u1.trans (u4.trans u5)
    walk_at "rx"
    refine ⟨D2, refs ps2, (j : Nat), _, rfl, rfl, SqL.of (U5.lst hD2), at_of rfl (refs_get hb), ?_⟩
    walk_at "rx"
    refine ⟨.ref a, .ref b, _, _, rfl, va.up U5, vb.up U5, U5.2, fun H6 u6 => ?_⟩
    have U6 := U5.trans u6
    have eD6 := u6.lst (u5.lst (u4.lst eD1))
    have T6 := ((T1.up u4).up u5).up u6
    have en : ∃ (k : Nat) (e : Int), Dz01.nearest xs (Dz01.place y t) t = some (k, e) := nearest_some (stars_mag hs) (by omega)
    obtain ⟨k, e, hk⟩ := en
    have ek : nix xs t y = (k : Int) := by
      unfold nix
      rw [hk]
    have em := matF_eq (tol := tol) (i := i) hne hy hk
    have hny : (vi (ys.map (nix xs t)))[j]? = some (.int (k : Nat)) := by
      unfold vi
      rw [List.getElem?_map, List.getElem?_map, hy]
      show some (V.int (nix xs t y)) = _
      rw [ek]
    walk_at "rx"
    refine rd_and2 (b1 := decide ((k : Int) = (i : Int))) (b2 := decide (Dz01.separation (Dz01.place x t) (Dz01.place y t) ≤ tol)) (fun Q1 q1 => ?_) (fun Q1 q1 => ?_) ?_
    · walk_at "rx"
      refine ⟨D3, _, (j : Nat), _, rfl, rfl, SqL.of (U6.lst hD3'), at_of rfl hny, ?_⟩
      walk_at "rx"
      exact q1
    · walk_at "rx"
      exact q1
    refine rd_dd (fun c => ?_) (fun c => ?_)
    · walk_at "rx"
      refine ⟨.inl ⟨rfl, _, SqL.of eD6⟩, ?_⟩
      walk_at "rx"
      refine ⟨by show 3 ≤ sizeLine; decide, fun p7 h7 => ?_⟩
      walk_at "rx"
      have eD7 : upd H6 p7 (.tup [.int (i : Nat), .int (j : Nat), .int (Dz01.separation (Dz01.place x t) (Dz01.place y t))]) D4 = some (.lst (refs cs)) := by
        rw [upd_ne (ne_of_none eD6 h7)]
        exact eD6
      have T7 := T6.up (Up.new (o := .tup [.int (i : Nat), .int (j : Nat), .int (Dz01.separation (Dz01.place x t) (Dz01.place y t))]) U6.2 h7)
      have bl : cs.length < 1000 := by
        have := T.1
        rw [List.length_map] at this
        omega
      refine ⟨D4, refs cs, .ref p7, rfl, rfl, eD7, Nat.lt_of_lt_of_le (by rw [refs_len]; exact bl) (by decide), ?_⟩
      refine ⟨cs ++ [p7], _, _, _, _, rfl, (U6.new2 h7).mut nD eD7, by rw [upd_same, refs_snoc], ?_⟩
      rw [if_pos ⟨by omega, by rw [sep_comm]; exact c.2⟩] at em
      rw [fk, em]
      show TupsL _ _ (List.map matT (_ ++ [(i, j, Dz01.separation (Dz01.place y t) (Dz01.place x t))]))
      rw [List.map_append]
      exact (T7.snoc (t := matT (i, j, Dz01.separation (Dz01.place y t) (Dz01.place x t))) (by rw [upd_same, sep_comm]; rfl)).mut (by exact eD7)
    · walk_at "rx"
      refine ⟨cs, _, _, _, _, rfl, U6, eD6, ?_⟩
      rw [if_neg fun z => c ⟨by omega, by rw [sep_comm]; exact z.2⟩] at em
      rw [fk, em]
      show TupsL _ _ (List.map matT (_ ++ []))
      rw [List.append_nil]
      exact T6
  · rintro σ H' ⟨cs, v8, v9, v10, v11, rfl, u, hD', T⟩
    rw [refs_len, w1.len, List.length_map, ← numbered_len, List.take_length, ← matching_eq] at T
    walk_at "rx"
    exact q H' D4 cs (U3.trans u) (Nw.back U3 nD) hD' T
end
section
variable {P : Program} {w : World} {K : PySem.W.Frag} {mg : Str → Option Value} {base : Heap} {Ts : List (Addr × Str)} {Ct Cs : Addr}
/-! ### texts: splitting, numbers -/
theorem split_ne (c : Nat) : ∀ l, Dz01.splitAt c l ≠ []
  | [] => by
    intro h
    cases h
  | b :: l => by
    show (match Dz01.splitAt c l with
      | [] => [[]]
      | p :: ps => if b = c then [] :: p :: ps else (b :: p) :: ps) ≠ []
    cases Dz01.splitAt c l with
    | nil =>
      intro h
      cases h
    | cons p ps =>
      dsimp only
      split <;> (intro h; cases h)
theorem split_sep (c : Nat) (l : List Nat) : Dz01.splitAt c (c :: l) = [] :: Dz01.splitAt c l := by
  show (match Dz01.splitAt c l with
      | [] => [[]]
      | p :: ps => if c = c then [] :: p :: ps else (c :: p) :: ps) = _
  cases e : Dz01.splitAt c l with
  | nil => exact absurd e (split_ne c l)
  | cons p ps => exact if_pos rfl
theorem split_oth {b c : Nat} {l p : List Nat} {ps : List (List Nat)} (h : b ≠ c) (e : Dz01.splitAt c l = p :: ps) : Dz01.splitAt c (b :: l) = (b :: p) :: ps := by
  show (match Dz01.splitAt c l with
      | [] => [[]]
      | p :: ps => if b = c then [] :: p :: ps else (b :: p) :: ps) = _
  rw [e]
  exact if_neg h
theorem split_one {c : Nat} : ∀ {a : List Nat}, (∀ b ∈ a, b ≠ c) → Dz01.splitAt c a = [a]
  | [], _ => rfl
  | b :: a, h => split_oth (h b (List.mem_cons_self ..)) (split_one fun x hx => h x (List.mem_cons_of_mem _ hx))
theorem split_app {c : Nat} {l : List Nat} : ∀ {a : List Nat}, (∀ b ∈ a, b ≠ c) → Dz01.splitAt c (a ++ c :: l) = a :: Dz01.splitAt c l
  | [], _ => split_sep c l
  | b :: a, h => split_oth (h b (List.mem_cons_self ..)) (split_app fun x hx => h x (List.mem_cons_of_mem _ hx))
/-- what is split is put together again -/
theorem split_inv (c : Nat) : ∀ (l a : List Nat) (r : List (List Nat)), Dz01.splitAt c l = a :: r → (∀ b ∈ a, b ≠ c) ∧ (r = [] → l = a) ∧ (r ≠ [] → ∃ l', l = a ++ c :: l' ∧ Dz01.splitAt c l' = r)
  | [], a, r, h => by
    cases h
    exact ⟨fun b hb => (by cases hb), fun _ => rfl, fun z => absurd rfl z⟩
  | x :: l, a, r, h => by
    by_cases q : x = c
    · subst q
      rw [split_sep] at h
      cases h
      exact ⟨fun b hb => (by cases hb), fun z => absurd z (split_ne x l), fun _ => ⟨l, rfl, rfl⟩⟩
    · cases e : Dz01.splitAt c l with
      | nil => exact absurd e (split_ne c l)
      | cons p ps =>
        rw [split_oth q e] at h
        cases h
        obtain ⟨h1, h2, h3⟩ := split_inv c l p r e
        refine ⟨fun b hb => ?_, fun z => by rw [h2 z], fun z => ?_⟩
        · rcases List.mem_cons.mp hb with w | w
          · rw [w]
            exact q
          · exact h1 b w
        · obtain ⟨l', e1, e2⟩ := h3 z
          exact ⟨l', by rw [e1]; rfl, e2⟩
/-- one more byte -/
theorem split_snoc (c : Nat) (b : Nat) : ∀ (l : List Nat) (ps : List (List Nat)) (p : List Nat), Dz01.splitAt c l = ps ++ [p] → Dz01.splitAt c (l ++ [b]) = if b = c then ps ++ [p] ++ [[]] else ps ++ [p ++ [b]]
  | [], ps, p, h => by
    have e : ps = [] ∧ p = [] := by
      cases ps with
      | nil => cases h; exact ⟨rfl, rfl⟩
      | cons q ps =>
        have := congrArg List.length h
        rw [List.length_append] at this
        simp [Dz01.splitAt] at this
    obtain ⟨rfl, rfl⟩ := e
    show (if b = c then [[], []] else [[b]]) = _
    split <;> rfl
  | x :: l, ps, p, h => by
    have ex : ∃ qs q, Dz01.splitAt c l = qs ++ [q] := by
      have := split_ne c l
      exact ⟨_, _, (List.dropLast_concat_getLast this).symm⟩
    obtain ⟨qs, q, e⟩ := ex
    have ih := split_snoc c b l qs q e
    show Dz01.splitAt c (x :: (l ++ [b])) = _
    by_cases hx : x = c
    · subst hx
      rw [split_sep, e] at h
      have h1 : ps = [] :: qs ∧ p = q := by
        have h' : ([] :: qs) ++ [q] = ps ++ [p] := h
        have := List.append_inj' h' rfl
        exact ⟨this.1.symm, (List.cons.inj this.2).1.symm⟩
      obtain ⟨rfl, rfl⟩ := h1
      rw [split_sep, ih]
      split <;> rfl
    · cases qs with
      | nil =>
        rw [split_oth hx e] at h
        have h1 : ps = [] ∧ p = x :: q := by
          have h' : [] ++ [x :: q] = ps ++ [p] := h
          have := List.append_inj' h' rfl
          exact ⟨this.1.symm, (List.cons.inj this.2).1.symm⟩
        obtain ⟨rfl, rfl⟩ := h1
        by_cases hb : b = c
        · rw [if_pos hb] at ih ⊢
          rw [split_oth hx ih]
          rfl
        · rw [if_neg hb] at ih ⊢
          rw [split_oth hx ih]
          rfl
      | cons r qs =>
        rw [split_oth hx e] at h
        have h1 : ps = (x :: r) :: qs ∧ p = q := by
          have h' : ((x :: r) :: qs) ++ [q] = ps ++ [p] := h
          have := List.append_inj' h' rfl
          exact ⟨this.1.symm, (List.cons.inj this.2).1.symm⟩
        obtain ⟨rfl, rfl⟩ := h1
        by_cases hb : b = c
        · rw [if_pos hb] at ih ⊢
          rw [split_oth hx ih]
          rfl
        · rw [if_neg hb] at ih ⊢
          rw [split_oth hx ih]
          rfl
theorem digit_bd {b : Nat} (h : Dz01.isDigit b = true) : 48 ≤ b ∧ b ≤ 57 := by
  unfold Dz01.isDigit at h
  exact and_t h
theorem digit_ne {b c : Nat} (h : Dz01.isDigit b = true) (hc : c < 48 ∨ 57 < c) : b ≠ c := by
  have := digit_bd h
  omega
theorem digits_iff {l : List Nat} : Dz01.isDigits l = true ↔ l ≠ [] ∧ ∀ b ∈ l, Dz01.isDigit b = true := by
  unfold Dz01.isDigits
  rw [Bool.and_eq_true, List.all_eq_true]
  cases l <;> simp
def okB (b c : Nat) : Bool := if c = 100 then Dz01.isDigit b else decide (b = c)
def fitsB : List Nat → List Nat → Bool
  | [], [] => true
  | b :: l, c :: f => okB b c && fitsB l f
  | _, _ => false
theorem fits_len : ∀ {l f : List Nat}, fitsB l f = true → l.length = f.length
  | [], [], _ => rfl
  | b :: l, c :: f, h => by
    have h' : (okB b c && fitsB l f) = true := h
    rw [Bool.and_eq_true] at h'
    rw [List.length_cons, List.length_cons, fits_len h'.2]
  | [], c :: f, h => by cases h
  | b :: l, [], h => by cases h
theorem fits_of : ∀ {l f : List Nat}, l.length = f.length → (∀ (i b c : Nat), l[i]? = some b → f[i]? = some c → okB b c = true) → fitsB l f = true
  | [], [], _, _ => rfl
  | b :: l, c :: f, h, k => by
    show (okB b c && fitsB l f) = true
    rw [k 0 b c rfl rfl, fits_of (Nat.succ.inj h) fun i x y e1 e2 => k (i + 1) x y e1 e2]
    rfl
  | [], c :: f, h, _ => by cases h
  | b :: l, [], h, _ => by cases h
theorem fits_not : ∀ {l f : List Nat} {i b c : Nat}, l[i]? = some b → f[i]? = some c → okB b c = false → fitsB l f = false
  | [], _, i, b, c, h, _, _ => by cases h
  | _ :: _, [], i, b, c, _, h, _ => by cases h
  | x :: l, y :: f, 0, b, c, h, k, q => by
    cases h
    cases k
    show (okB x y && fitsB l f) = false
    rw [q]
    rfl
  | x :: l, y :: f, i + 1, b, c, h, k, q => by
    show (okB x y && fitsB l f) = false
    rw [fits_not (l := l) (f := f) (i := i) h k q, Bool.and_false]
theorem fits_cons {b c : Nat} {l f : List Nat} : fitsB (b :: l) (c :: f) = true ↔ okB b c = true ∧ fitsB l f = true := by
  show (okB b c && fitsB l f) = true ↔ _
  rw [Bool.and_eq_true]
theorem okB_d {b : Nat} : okB b 100 = Dz01.isDigit b := if_pos rfl
theorem okB_n {b c : Nat} (h : c ≠ 100) : okB b c = true ↔ b = c := by
  unfold okB
  rw [if_neg h, decide_eq_true_eq]
theorem nat2 (a b : Nat) : Dz01.natOf [a, b] = 10 * (10 * 0 + (a - 48)) + (b - 48) := rfl
/-- the form of an angle -/
def angF : List Nat := [100, 100, 58, 100, 100, 58, 100, 100, 46, 100, 100, 100]
theorem ang_form {l : List Nat} (h : fitsB l angF = true) : ∃ a1 a2 b1 b2 c1 c2 d1 d2 d3 : Nat, l = [a1, a2, 58, b1, b2, 58, c1, c2, 46, d1, d2, d3] ∧ (Dz01.isDigit a1 = true ∧ Dz01.isDigit a2 = true) ∧ (Dz01.isDigit b1 = true ∧ Dz01.isDigit b2 = true) ∧ (Dz01.isDigit c1 = true ∧ Dz01.isDigit c2 = true) ∧ Dz01.isDigit d1 = true ∧ Dz01.isDigit d2 = true ∧ Dz01.isDigit d3 = true := by
  have hl : l.length = 12 := fits_len h
  match l, hl with
  | [a1, a2, x1, b1, b2, x2, c1, c2, x3, d1, d2, d3], _ =>
    unfold angF at h
    rw [fits_cons, fits_cons, fits_cons, fits_cons, fits_cons, fits_cons, fits_cons, fits_cons, fits_cons, fits_cons, fits_cons, fits_cons] at h
    rw [okB_d, okB_d, okB_d, okB_d, okB_d, okB_d, okB_d, okB_d, okB_d, okB_n (by decide), okB_n (by decide), okB_n (by decide)] at h
    obtain ⟨h1, h2, rfl, h3, h4, rfl, h5, h6, rfl, h7, h8, h9, _⟩ := h
    exact ⟨a1, a2, b1, b2, c1, c2, d1, d2, d3, rfl, ⟨h1, h2⟩, ⟨h3, h4⟩, ⟨h5, h6⟩, h7, h8, h9⟩
theorem fixed2 {a b m : Nat} (h1 : Dz01.isDigit a = true) (h2 : Dz01.isDigit b = true) : Dz01.fixedNat 2 m [a, b] = if Dz01.natOf [a, b] < m then some (Dz01.natOf [a, b]) else none := by
  have e : Dz01.isDigits [a, b] = true := by
    show (true && (Dz01.isDigit a && (Dz01.isDigit b && true))) = true
    rw [h1, h2]
    rfl
  unfold Dz01.fixedNat
  by_cases c : Dz01.natOf [a, b] < m
  · rw [if_pos ⟨e, rfl, c⟩, if_pos c]
  · rw [if_neg (fun z => c z.2.2), if_neg c]
theorem nat3_lt {a b c : Nat} (h1 : Dz01.isDigit a = true) (h2 : Dz01.isDigit b = true) (h3 : Dz01.isDigit c = true) : Dz01.natOf [a, b, c] < 1000 := by
  have k1 := digit_bd h1
  have k2 := digit_bd h2
  have k3 := digit_bd h3
  show 10 * (10 * (10 * 0 + (a - 48)) + (b - 48)) + (c - 48) < 1000
  omega
theorem fixed3 {a b c : Nat} (h1 : Dz01.isDigit a = true) (h2 : Dz01.isDigit b = true) (h3 : Dz01.isDigit c = true) : Dz01.fixedNat 3 1000 [a, b, c] = some (Dz01.natOf [a, b, c]) := by
  have e : Dz01.isDigits [a, b, c] = true := by
    show (true && (Dz01.isDigit a && (Dz01.isDigit b && (Dz01.isDigit c && true)))) = true
    rw [h1, h2, h3]
    rfl
  unfold Dz01.fixedNat
  rw [if_pos ⟨e, rfl, nat3_lt h1 h2 h3⟩]
theorem mem2 {a b c : Nat} (h1 : a ≠ c) (h2 : b ≠ c) : ∀ x ∈ [a, b], x ≠ c := fun x hx => by
  rcases List.mem_cons.mp hx with e | e
  · rw [e]
    exact h1
  · rw [List.mem_singleton.mp e]
    exact h2
theorem mem3 {a b d c : Nat} (h1 : a ≠ c) (h2 : b ≠ c) (h3 : d ≠ c) : ∀ x ∈ [a, b, d], x ≠ c := fun x hx => by
  rcases List.mem_cons.mp hx with e | e
  · rw [e]
    exact h1
  · exact mem2 h2 h3 x e
/-- the thousandths that an angle's word tells -/
def sexN (a1 a2 b1 b2 c1 c2 d1 d2 d3 : Nat) : Nat := 3600000 * Dz01.natOf [a1, a2] + 60000 * Dz01.natOf [b1, b2] + (1000 * Dz01.natOf [c1, c2] + Dz01.natOf [d1, d2, d3])
theorem sex_of {m a1 a2 b1 b2 c1 c2 d1 d2 d3 : Nat} (ha : Dz01.isDigit a1 = true ∧ Dz01.isDigit a2 = true) (hb : Dz01.isDigit b1 = true ∧ Dz01.isDigit b2 = true) (hc : Dz01.isDigit c1 = true ∧ Dz01.isDigit c2 = true) (hd : Dz01.isDigit d1 = true ∧ Dz01.isDigit d2 = true ∧ Dz01.isDigit d3 = true) :
    Dz01.sexagesimal m [a1, a2, 58, b1, b2, 58, c1, c2, 46, d1, d2, d3] = if Dz01.natOf [a1, a2] < m ∧ Dz01.natOf [b1, b2] < 60 ∧ Dz01.natOf [c1, c2] < 60 then some (sexN a1 a2 b1 b2 c1 c2 d1 d2 d3) else none := by
  have n : ∀ {b : Nat}, Dz01.isDigit b = true → b ≠ 58 := fun h => digit_ne h (by decide)
  have n2 : ∀ {b : Nat}, Dz01.isDigit b = true → b ≠ 46 := fun h => digit_ne h (by decide)
  have e1 : Dz01.splitAt 58 [a1, a2, 58, b1, b2, 58, c1, c2, 46, d1, d2, d3] = [[a1, a2], [b1, b2], [c1, c2, 46, d1, d2, d3]] := by
    have q1 := split_app (c := 58) (l := [b1, b2, 58, c1, c2, 46, d1, d2, d3]) (mem2 (n ha.1) (n ha.2))
    have q2 := split_app (c := 58) (l := [c1, c2, 46, d1, d2, d3]) (mem2 (n hb.1) (n hb.2))
    have q3 : Dz01.splitAt 58 [c1, c2, 46, d1, d2, d3] = [[c1, c2, 46, d1, d2, d3]] := split_one (a := [c1, c2, 46, d1, d2, d3]) fun x hx => by
      simp only [List.mem_cons, List.not_mem_nil, or_false] at hx
      rcases hx with e | e | e | e | e | e <;> subst e
      · exact n hc.1
      · exact n hc.2
      · decide
      · exact n hd.1
      · exact n hd.2.1
      · exact n hd.2.2
    have q4 : Dz01.splitAt 58 [a1, a2, 58, b1, b2, 58, c1, c2, 46, d1, d2, d3] = [a1, a2] :: Dz01.splitAt 58 [b1, b2, 58, c1, c2, 46, d1, d2, d3] := q1
    have q5 : Dz01.splitAt 58 [b1, b2, 58, c1, c2, 46, d1, d2, d3] = [b1, b2] :: Dz01.splitAt 58 [c1, c2, 46, d1, d2, d3] := q2
    rw [q4, q5, q3]
  have e2 : Dz01.splitAt 46 [c1, c2, 46, d1, d2, d3] = [[c1, c2], [d1, d2, d3]] := by
    have q1 : Dz01.splitAt 46 [c1, c2, 46, d1, d2, d3] = [c1, c2] :: Dz01.splitAt 46 [d1, d2, d3] := split_app (c := 46) (l := [d1, d2, d3]) (mem2 (n2 hc.1) (n2 hc.2))
    rw [q1, split_one (mem3 (n2 hd.1) (n2 hd.2.1) (n2 hd.2.2))]
  unfold Dz01.sexagesimal Dz01.thousandths
  rw [e1]
  dsimp only
  rw [e2, fixed2 ha.1 ha.2, fixed2 hb.1 hb.2]
  dsimp only
  rw [fixed2 hc.1 hc.2, fixed3 hd.1 hd.2.1 hd.2.2]
  by_cases h1 : Dz01.natOf [a1, a2] < m
  · by_cases h2 : Dz01.natOf [b1, b2] < 60
    · by_cases h3 : Dz01.natOf [c1, c2] < 60
      · rw [if_pos h1, if_pos h2, if_pos h3, if_pos ⟨h1, h2, h3⟩]
        rfl
      · rw [if_pos h1, if_pos h2, if_neg h3, if_neg (show ¬ (Dz01.natOf [a1, a2] < m ∧ Dz01.natOf [b1, b2] < 60 ∧ Dz01.natOf [c1, c2] < 60) from fun z => h3 z.2.2)]
        rfl
    · rw [if_pos h1, if_neg h2, if_neg (show ¬ (Dz01.natOf [a1, a2] < m ∧ Dz01.natOf [b1, b2] < 60 ∧ Dz01.natOf [c1, c2] < 60) from fun z => h2 z.2.1)]
      rfl
  · rw [if_neg h1, if_neg (show ¬ (Dz01.natOf [a1, a2] < m ∧ Dz01.natOf [b1, b2] < 60 ∧ Dz01.natOf [c1, c2] < 60) from fun z => h1 z.1)]
    rfl
theorem fixed_some {k m n : Nat} {l : List Nat} (h : Dz01.fixedNat k m l = some n) : (l ≠ [] ∧ ∀ b ∈ l, Dz01.isDigit b = true) ∧ l.length = k ∧ Dz01.natOf l < m ∧ n = Dz01.natOf l := by
  unfold Dz01.fixedNat at h
  split at h
  · rename_i c
    exact ⟨digits_iff.mp c.1, c.2.1, c.2.2, (Option.some.inj h).symm⟩
  · cases h
theorem sex_fits {m n : Nat} {l : List Nat} (h : Dz01.sexagesimal m l = some n) : fitsB l angF = true := by
  unfold Dz01.sexagesimal at h
  split at h
  · rename_i a b c e
    obtain ⟨x, h1, h⟩ := Option.bind_eq_some_iff.mp h
    obtain ⟨y, h2, h⟩ := Option.bind_eq_some_iff.mp h
    obtain ⟨z, h3, _⟩ := Option.map_eq_some_iff.mp h
    unfold Dz01.thousandths at h3
    split at h3
    · rename_i c' d e2
      obtain ⟨u, h4, h5⟩ := Option.bind_eq_some_iff.mp h3
      obtain ⟨w, h6, _⟩ := Option.map_eq_some_iff.mp h5
      obtain ⟨⟨_, da⟩, la, _⟩ := fixed_some h1
      obtain ⟨⟨_, db⟩, lb, _⟩ := fixed_some h2
      obtain ⟨⟨_, dc⟩, lc, _⟩ := fixed_some h4
      obtain ⟨⟨_, dd⟩, ld, _⟩ := fixed_some h6
      obtain ⟨_, _, i1⟩ := split_inv 58 _ _ _ e
      obtain ⟨l1, rfl, e3⟩ := i1 (by simp)
      obtain ⟨_, _, i2⟩ := split_inv 58 _ _ _ e3
      obtain ⟨l2, rfl, e4⟩ := i2 (by simp)
      obtain ⟨_, i3, _⟩ := split_inv 58 _ _ _ e4
      have e5 := i3 rfl
      subst e5
      obtain ⟨_, _, i4⟩ := split_inv 46 _ _ _ e2
      obtain ⟨l3, rfl, e6⟩ := i4 (by simp)
      obtain ⟨_, i5, _⟩ := split_inv 46 _ _ _ e6
      have e7 := i5 rfl
      subst e7
      match a, la, b, lb, c', lc, l3, ld with
      | [a1, a2], _, [b1, b2], _, [c1, c2], _, [d1, d2, d3], _ =>
        show fitsB [a1, a2, 58, b1, b2, 58, c1, c2, 46, d1, d2, d3] angF = true
        have g : ∀ {x : Nat} {l : List Nat}, (∀ b ∈ x :: l, Dz01.isDigit b = true) → Dz01.isDigit x = true ∧ ∀ b ∈ l, Dz01.isDigit b = true := fun h => ⟨h _ (List.mem_cons_self ..), fun b hb => h b (List.mem_cons_of_mem _ hb)⟩
        have a' := g da
        have b' := g db
        have c' := g dc
        have d' := g dd
        unfold angF
        rw [fits_cons, fits_cons, fits_cons, fits_cons, fits_cons, fits_cons, fits_cons, fits_cons, fits_cons, fits_cons, fits_cons, fits_cons]
        rw [okB_d, okB_d, okB_d, okB_d, okB_d, okB_d, okB_d, okB_d, okB_d, okB_n (by decide), okB_n (by decide)]
        exact ⟨a'.1, (g a'.2).1, rfl, b'.1, (g b'.2).1, rfl, c'.1, (g c'.2).1, rfl, d'.1, (g d'.2).1, (g (g d'.2).2).1, rfl⟩
    · cases h3
  · cases h
theorem sex_none {m : Nat} {l : List Nat} (h : fitsB l angF = false) : Dz01.sexagesimal m l = none := by
  cases e : Dz01.sexagesimal m l with
  | none => rfl
  | some n =>
    rw [sex_fits e] at h
    cases h
end
section
variable {P : Program} {w : World} {K : PySem.W.Frag} {mg : Str → Option Value} {base : Heap} {Ts : List (Addr × Str)} {Ct Cs : Addr}
/-! ### texts: the forms of words -/
theorem fits_app : ∀ {f g u : List Nat}, fitsB u (f ++ g) = true ↔ ∃ a b, u = a ++ b ∧ fitsB a f = true ∧ fitsB b g = true
  | [], g, u => by
    refine ⟨fun h => ⟨[], u, rfl, rfl, h⟩, fun ⟨a, b, e, h1, h2⟩ => ?_⟩
    have : a = [] := List.eq_nil_of_length_eq_zero (fits_len h1)
    subst this
    rw [e]
    exact h2
  | c :: f, g, [] => by
    refine ⟨fun h => (by cases h), fun ⟨a, b, e, h1, _⟩ => ?_⟩
    have h := fits_len h1
    have e2 := congrArg List.length e
    rw [List.length_append, h] at e2
    simp at e2
    omega
  | c :: f, g, x :: u => by
    show fitsB (x :: u) (c :: (f ++ g)) = true ↔ _
    rw [fits_cons, fits_app (f := f) (g := g) (u := u)]
    constructor
    · rintro ⟨h, a, b, rfl, h1, h2⟩
      exact ⟨x :: a, b, rfl, fits_cons.mpr ⟨h, h1⟩, h2⟩
    · rintro ⟨a, b, e, h1, h2⟩
      cases a with
      | nil => cases h1
      | cons y a =>
        cases e
        exact ⟨(fits_cons.mp h1).1, a, b, rfl, (fits_cons.mp h1).2, h2⟩
def DG (l : List Nat) : Prop := ∀ b ∈ l, Dz01.isDigit b = true
theorem DG.cons {x : Nat} {l : List Nat} (h : DG (x :: l)) : Dz01.isDigit x = true ∧ DG l := ⟨h _ (List.mem_cons_self ..), fun b hb => h b (List.mem_cons_of_mem _ hb)⟩
theorem DG.mk {x : Nat} {l : List Nat} (h : Dz01.isDigit x = true) (k : DG l) : DG (x :: l) := fun b hb => by
  rcases List.mem_cons.mp hb with e | e
  · rw [e]
    exact h
  · exact k b e
theorem DG.ne {l : List Nat} {c : Nat} (h : DG l) (hc : c < 48 ∨ 57 < c) : ∀ b ∈ l, b ≠ c := fun b hb => digit_ne (h b hb) hc
theorem fits_digits : ∀ {n : Nat} {u : List Nat}, fitsB u (List.replicate n 100) = true ↔ u.length = n ∧ DG u
  | 0, [] => ⟨fun _ => ⟨rfl, fun b hb => (by cases hb)⟩, fun _ => rfl⟩
  | 0, x :: u => ⟨fun h => (by cases h), fun ⟨h, _⟩ => (by cases h)⟩
  | n + 1, [] => ⟨fun h => (by cases h), fun ⟨h, _⟩ => (by cases h)⟩
  | n + 1, x :: u => by
    rw [List.replicate_succ, fits_cons, okB_d, fits_digits]
    constructor
    · rintro ⟨h, rfl, k⟩
      exact ⟨rfl, .mk h k⟩
    · rintro ⟨h, k⟩
      exact ⟨k.cons.1, Nat.succ.inj h, k.cons.2⟩
theorem fits_point {n m : Nat} {u : List Nat} : fitsB u (List.replicate n 100 ++ 46 :: List.replicate m 100) = true ↔ ∃ a b, u = a ++ 46 :: b ∧ (a.length = n ∧ DG a) ∧ b.length = m ∧ DG b := by
  rw [fits_app]
  constructor
  · rintro ⟨a, b, rfl, h1, h2⟩
    cases b with
    | nil => cases h2
    | cons x b =>
      rw [fits_cons, okB_n (by decide)] at h2
      obtain ⟨rfl, h2⟩ := h2
      exact ⟨a, b, rfl, fits_digits.mp h1, fits_digits.mp h2⟩
  · rintro ⟨a, b, rfl, h1, h2⟩
    exact ⟨a, 46 :: b, rfl, fits_digits.mpr h1, fits_cons.mpr ⟨(okB_n (by decide)).mpr rfl, fits_digits.mpr h2⟩⟩
/-- the word behind its sign -/
def noM (l : List Nat) : List Nat := if l.head? = some 45 then l.tail else l
def sgn (l : List Nat) (n : Int) : Int := if l.head? = some 45 then -n else n
theorem noM_len (l : List Nat) : (noM l).length ≤ l.length := by
  unfold noM
  split
  · rw [List.length_tail]
    omega
  · exact Nat.le_refl _
def motF : List (List Nat) := [[100], [100, 100], [100, 100, 100], [100, 100, 100, 100], [100, 100, 100, 100, 100]]
def magF : List (List Nat) := [[100], [100, 46, 100], [100, 46, 100, 100], [100, 46, 100, 100, 100], [100, 100], [100, 100, 46, 100], [100, 100, 46, 100, 100], [100, 100, 46, 100, 100, 100]]
theorem any_iff {u : List Nat} {F : List (List Nat)} : (F.map (fitsB u)).any id = true ↔ ∃ f ∈ F, fitsB u f = true := by
  rw [List.any_map, List.any_eq_true]
  rfl
theorem mot_iff {u : List Nat} : (motF.map (fitsB u)).any id = true ↔ Dz01.isDigits u = true ∧ u.length ≤ 5 := by
  rw [any_iff, digits_iff]
  have r : ∀ n, fitsB u (List.replicate n 100) = true ↔ u.length = n ∧ DG u := fun n => fits_digits
  constructor
  · rintro ⟨f, hf, h⟩
    simp only [motF, List.mem_cons, List.not_mem_nil, or_false] at hf
    have k : ∃ n, 1 ≤ n ∧ n ≤ 5 ∧ f = List.replicate n 100 := by
      rcases hf with e | e | e | e | e
      · exact ⟨1, by decide, by decide, e⟩
      · exact ⟨2, by decide, by decide, e⟩
      · exact ⟨3, by decide, by decide, e⟩
      · exact ⟨4, by decide, by decide, e⟩
      · exact ⟨5, by decide, by decide, e⟩
    obtain ⟨n, n1, n2, rfl⟩ := k
    obtain ⟨h1, h2⟩ := (r n).mp h
    exact ⟨⟨fun z => by rw [z] at h1; simp at h1; omega, h2⟩, by omega⟩
  · rintro ⟨⟨h1, h2⟩, h3⟩
    have k := (r u.length).mpr ⟨rfl, h2⟩
    have h0 : u.length ≠ 0 := fun z => h1 (List.eq_nil_of_length_eq_zero z)
    have c : u.length = 1 ∨ u.length = 2 ∨ u.length = 3 ∨ u.length = 4 ∨ u.length = 5 := by omega
    rcases c with e | e | e | e | e <;> rw [e] at k
    · exact ⟨_, by decide, k⟩
    · exact ⟨_, by decide, k⟩
    · exact ⟨_, by decide, k⟩
    · exact ⟨_, by decide, k⟩
    · exact ⟨_, by decide, k⟩
/-- a magnitude's form -/
def MagForm (u : List Nat) : Prop := ∃ a b : List Nat, DG a ∧ DG b ∧ 1 ≤ a.length ∧ a.length ≤ 2 ∧ ((u = a ∧ b = []) ∨ (u = a ++ 46 :: b ∧ 1 ≤ b.length ∧ b.length ≤ 3))
theorem mag_iff {u : List Nat} : (magF.map (fitsB u)).any id = true ↔ MagForm u := by
  rw [any_iff]
  constructor
  · rintro ⟨f, hf, h⟩
    simp only [magF, List.mem_cons, List.not_mem_nil, or_false] at hf
    have k : ∃ n, 1 ≤ n ∧ n ≤ 2 ∧ (f = List.replicate n 100 ∨ ∃ m, 1 ≤ m ∧ m ≤ 3 ∧ f = List.replicate n 100 ++ 46 :: List.replicate m 100) := by
      rcases hf with e | e | e | e | e | e | e | e
      · exact ⟨1, by decide, by decide, .inl e⟩
      · exact ⟨1, by decide, by decide, .inr ⟨1, by decide, by decide, e⟩⟩
      · exact ⟨1, by decide, by decide, .inr ⟨2, by decide, by decide, e⟩⟩
      · exact ⟨1, by decide, by decide, .inr ⟨3, by decide, by decide, e⟩⟩
      · exact ⟨2, by decide, by decide, .inl e⟩
      · exact ⟨2, by decide, by decide, .inr ⟨1, by decide, by decide, e⟩⟩
      · exact ⟨2, by decide, by decide, .inr ⟨2, by decide, by decide, e⟩⟩
      · exact ⟨2, by decide, by decide, .inr ⟨3, by decide, by decide, e⟩⟩
    obtain ⟨n, n1, n2, rfl | ⟨m, m1, m2, rfl⟩⟩ := k
    · obtain ⟨h1, h2⟩ := fits_digits.mp h
      exact ⟨u, [], h2, fun b hb => (by cases hb), by omega, by omega, .inl ⟨rfl, rfl⟩⟩
    · obtain ⟨a, b, e, ⟨h1, h2⟩, h3, h4⟩ := fits_point.mp h
      exact ⟨a, b, h2, h4, by omega, by omega, .inr ⟨e, by omega, by omega⟩⟩
  · rintro ⟨a, b, da, db, a1, a2, ⟨rfl, rfl⟩ | ⟨rfl, b1, b2⟩⟩
    · have k := (fits_digits (n := u.length) (u := u)).mpr ⟨rfl, da⟩
      have c : u.length = 1 ∨ u.length = 2 := by omega
      rcases c with e | e <;> rw [e] at k
      · exact ⟨_, by decide, k⟩
      · exact ⟨_, by decide, k⟩
    · have k := (fits_point (n := a.length) (m := b.length) (u := a ++ 46 :: b)).mpr ⟨a, b, rfl, ⟨rfl, da⟩, rfl, db⟩
      have c : a.length = 1 ∨ a.length = 2 := by omega
      have d : b.length = 1 ∨ b.length = 2 ∨ b.length = 3 := by omega
      rcases c with e | e <;> rcases d with e2 | e2 | e2 <;> rw [e, e2] at k
      · exact ⟨_, by decide, k⟩
      · exact ⟨_, by decide, k⟩
      · exact ⟨_, by decide, k⟩
      · exact ⟨_, by decide, k⟩
      · exact ⟨_, by decide, k⟩
      · exact ⟨_, by decide, k⟩
def magV (u : List Nat) : Nat := match Dz01.splitAt 46 u with
  | [a, b] => 1000 * Dz01.natOf a + Dz01.natOf b * 10 ^ (3 - b.length)
  | _ => 1000 * Dz01.natOf u
theorem mag_read (l : List Nat) : Dz01.readMagnitude l = if (magF.map (fitsB (noM l))).any id = true then some (sgn l (magV (noM l))) else none := by
  have e0 : Dz01.readMagnitude l = (match Dz01.splitAt 46 (noM l) with
    | [a] => if Dz01.isDigits a = true ∧ a.length ≤ 2 then some (1000 * Dz01.natOf a) else none
    | [a, b] => if Dz01.isDigits a = true ∧ a.length ≤ 2 ∧ Dz01.isDigits b = true ∧ b.length ≤ 3 then some (1000 * Dz01.natOf a + Dz01.natOf b * 10 ^ (3 - b.length)) else none
    | _ => none : Option Nat).map fun n => sgn l n := by
    unfold Dz01.readMagnitude noM sgn
    rfl
  rw [e0]
  generalize hu : noM l = u
  by_cases c : (magF.map (fitsB u)).any id = true
  · rw [if_pos c]
    obtain ⟨a, b, da, db, a1, a2, ⟨rfl, rfl⟩ | ⟨rfl, b1, b2⟩⟩ := mag_iff.mp c
    · unfold magV
      rw [split_one (c := 46) (da.ne (by decide))]
      dsimp only
      rw [if_pos ⟨digits_iff.mpr ⟨fun z => by rw [z] at a1; simp at a1, da⟩, a2⟩]
      rfl
    · unfold magV
      rw [split_app (da.ne (by decide)), split_one (db.ne (by decide))]
      dsimp only
      rw [if_pos ⟨digits_iff.mpr ⟨fun z => by rw [z] at a1; simp at a1, da⟩, a2, digits_iff.mpr ⟨fun z => by rw [z] at b1; simp at b1, db⟩, b2⟩]
      rfl
  · rw [if_neg c]
    have no := fun h => c (mag_iff.mpr h)
    split
    · rename_i a e
      obtain ⟨_, h, _⟩ := split_inv 46 _ _ _ e
      have e2 := h rfl
      rw [if_neg]
      · rfl
      · rintro ⟨h1, h2⟩
        obtain ⟨h3, h4⟩ := digits_iff.mp h1
        exact no ⟨a, [], h4, fun b hb => (by cases hb), List.length_pos_iff.mpr h3, h2, .inl ⟨e2, rfl⟩⟩
    · rename_i a b e
      obtain ⟨_, _, h⟩ := split_inv 46 _ _ _ e
      obtain ⟨l', e2, e3⟩ := h (by simp)
      obtain ⟨_, h, _⟩ := split_inv 46 _ _ _ e3
      have e4 := h rfl
      subst e4
      rw [if_neg]
      · rfl
      · rintro ⟨h1, h2, h3, h4⟩
        obtain ⟨k1, k2⟩ := digits_iff.mp h1
        obtain ⟨k3, k4⟩ := digits_iff.mp h3
        exact no ⟨a, l', k2, k4, List.length_pos_iff.mpr k1, h2, .inr ⟨e2, List.length_pos_iff.mpr k3, h4⟩⟩
    · rfl
theorem mot_read (l : List Nat) : Dz01.readMotion l = if (motF.map (fitsB (noM l))).any id = true then some (sgn l (Dz01.natOf (noM l))) else none := by
  have e0 : Dz01.readMotion l = if Dz01.isDigits (noM l) = true ∧ (noM l).length ≤ 5 then some (sgn l (Dz01.natOf (noM l))) else none := rfl
  rw [e0]
  by_cases c : (motF.map (fitsB (noM l))).any id = true
  · rw [if_pos c, if_pos (mot_iff.mp c)]
  · rw [if_neg c, if_neg fun z => c (mot_iff.mpr z)]
theorem natOf_snoc (l : List Nat) (b : Nat) : Dz01.natOf (l ++ [b]) = 10 * Dz01.natOf l + (b - 48) := by
  unfold Dz01.natOf
  rw [List.foldl_append]
  rfl
theorem natOf_lt : ∀ (n : Nat) (l : List Nat), l.length = n → DG l → Dz01.natOf l < 10 ^ n
  | 0, [], _, _ => by decide
  | n + 1, l, h, d => by
    have hne : l ≠ [] := fun z => by
      rw [z] at h
      cases h
    have e := (List.dropLast_concat_getLast hne).symm
    rw [e, natOf_snoc]
    have ih := natOf_lt n l.dropLast (by rw [List.length_dropLast, h]; rfl) fun b hb => d b (List.dropLast_subset l hb)
    have k := digit_bd (d _ (List.getLast_mem hne))
    rw [Nat.pow_succ]
    omega
theorem natOf_bd {l : List Nat} {n : Nat} (h : l.length ≤ n) (d : DG l) : Dz01.natOf l < 10 ^ n := Nat.lt_of_lt_of_le (natOf_lt _ l rfl d) (Nat.pow_le_pow_right (by decide) h)
/-- the angle's word as slices -/
def thouN (l : List Nat) : Nat := ((Dz01.natOf (l.take 2) * 60 + Dz01.natOf ((l.drop 3).take 2)) * 60 + Dz01.natOf ((l.drop 6).take 2)) * 1000 + Dz01.natOf ((l.drop 9).take 3)
def sixB (l : List Nat) : Bool := fitsB l angF && (decide (Dz01.natOf ((l.drop 3).take 2) < 60) && decide (Dz01.natOf ((l.drop 6).take 2) < 60))
theorem sex_eq (m : Nat) (l : List Nat) : Dz01.sexagesimal m l = if (sixB l && decide (Dz01.natOf (l.take 2) < m)) = true then some (thouN l) else none := by
  cases c : fitsB l angF with
  | false =>
    rw [sex_none c]
    unfold sixB
    rw [c]
    rfl
  | true =>
    obtain ⟨a1, a2, b1, b2, c1, c2, d1, d2, d3, rfl, ha, hb, hc, hd⟩ := ang_form c
    rw [sex_of ha hb hc hd]
    have e1 : thouN [a1, a2, 58, b1, b2, 58, c1, c2, 46, d1, d2, d3] = sexN a1 a2 b1 b2 c1 c2 d1 d2 d3 := by
      show ((Dz01.natOf [a1, a2] * 60 + Dz01.natOf [b1, b2]) * 60 + Dz01.natOf [c1, c2]) * 1000 + Dz01.natOf [d1, d2, d3] = 3600000 * Dz01.natOf [a1, a2] + 60000 * Dz01.natOf [b1, b2] + (1000 * Dz01.natOf [c1, c2] + Dz01.natOf [d1, d2, d3])
      omega
    have e2 : (sixB [a1, a2, 58, b1, b2, 58, c1, c2, 46, d1, d2, d3] && decide (Dz01.natOf (List.take 2 [a1, a2, 58, b1, b2, 58, c1, c2, 46, d1, d2, d3]) < m)) = ((decide (Dz01.natOf [b1, b2] < 60) && decide (Dz01.natOf [c1, c2] < 60)) && decide (Dz01.natOf [a1, a2] < m)) := by
      unfold sixB
      rw [c]
      rfl
    rw [e1, e2]
    by_cases k : Dz01.natOf [a1, a2] < m ∧ Dz01.natOf [b1, b2] < 60 ∧ Dz01.natOf [c1, c2] < 60
    · rw [if_pos k, decide_eq_true k.1, decide_eq_true k.2.1, decide_eq_true k.2.2]
      rfl
    · rw [if_neg k, if_neg]
      intro z
      rw [Bool.and_eq_true, Bool.and_eq_true, decide_eq_true_eq, decide_eq_true_eq, decide_eq_true_eq] at z
      exact k ⟨z.2, z.1.1, z.1.2⟩
theorem sex_lt {m n : Nat} {l : List Nat} (h : Dz01.sexagesimal m l = some n) : n < 3600000 * m := by
  have f := sex_fits h
  obtain ⟨a1, a2, b1, b2, c1, c2, d1, d2, d3, rfl, ha, hb, hc, hd⟩ := ang_form f
  rw [sex_of ha hb hc hd] at h
  split at h
  · rename_i k
    have e := Option.some.inj h
    have d := nat3_lt hd.1 hd.2.1 hd.2.2
    unfold sexN at e
    omega
  · cases h
theorem ra_read (l : List Nat) : Dz01.readRa l = if (sixB l && decide (Dz01.natOf (l.take 2) < 24)) = true then some (15 * (thouN l : Int)) else none := by
  unfold Dz01.readRa
  rw [sex_eq]
  split <;> rfl
theorem thou_91 {l : List Nat} (h : fitsB l angF = true) (k : thouN l ≤ 324000000) : Dz01.natOf (l.take 2) < 91 := by
  have : 3600000 * Dz01.natOf (l.take 2) ≤ thouN l := by
    unfold thouN
    omega
  omega
def decB (l : List Nat) : Bool := (fitsB (l.take 1) [43] || fitsB (l.take 1) [45]) && (sixB l.tail && decide (thouN l.tail ≤ 324000000))
theorem dec_tail (l : List Nat) (z : Int → Int) : ((Dz01.sexagesimal 91 l).bind fun n => if n ≤ 324000000 then some (z (n : Int)) else none) = if (sixB l && decide (thouN l ≤ 324000000)) = true then some (z (thouN l : Int)) else none := by
  rw [sex_eq]
  cases c : sixB l with
  | false => rfl
  | true =>
    have f : fitsB l angF = true := by
      unfold sixB at c
      rw [Bool.and_eq_true] at c
      exact c.1
    by_cases k : thouN l ≤ 324000000
    · rw [decide_eq_true (thou_91 f k), decide_eq_true k]
      exact if_pos k
    · rw [decide_eq_false k]
      by_cases q : Dz01.natOf (l.take 2) < 91
      · rw [decide_eq_true q]
        exact if_neg k
      · rw [decide_eq_false q]
        rfl
theorem dec_read (l : List Nat) : Dz01.readDec l = if decB l = true then some (sgn l (thouN l.tail : Int)) else none := by
  match l with
  | [] => rfl
  | c :: l =>
    by_cases h1 : c = 43
    · subst h1
      have e : decB (43 :: l) = (sixB l && decide (thouN l ≤ 324000000)) := rfl
      rw [e]
      exact dec_tail l fun z => z
    · by_cases h2 : c = 45
      · subst h2
        have e : decB (45 :: l) = (sixB l && decide (thouN l ≤ 324000000)) := rfl
        rw [e]
        exact dec_tail l fun z => -z
      · have e1 : Dz01.readDec (c :: l) = none := by
          unfold Dz01.readDec
          split
          · rename_i h
            exact absurd (List.cons.inj h).1 h1
          · rename_i h
            exact absurd (List.cons.inj h).1 h2
          · rfl
        have f1 : fitsB [c] [43] = false := by
          show (okB c 43 && true) = false
          unfold okB
          rw [if_neg (by decide), decide_eq_false h1]
          rfl
        have f2 : fitsB [c] [45] = false := by
          show (okB c 45 && true) = false
          unfold okB
          rw [if_neg (by decide), decide_eq_false h2]
          rfl
        rw [e1, if_neg]
        intro z
        unfold decB at z
        have e2 : List.take 1 (c :: l) = [c] := rfl
        rw [e2, f1, f2] at z
        cases z
def smallB (b : Nat) : Bool := decide (97 ≤ b) && decide (b ≤ 122)
theorem name_read (l : List Nat) : Dz01.isName l = ((decide (1 ≤ l.length) && decide (l.length ≤ 12)) && smallB (l.getD 0 0) && l.all fun b => smallB b || Dz01.isDigit b || decide (b = 45)) := by
  match l with
  | [] => rfl
  | c :: l =>
    have e : Dz01.isName (c :: l) = (decide (97 ≤ c) && decide (c ≤ 122) && decide (l.length ≤ 11) && l.all fun b => (decide (97 ≤ b) && decide (b ≤ 122)) || Dz01.isDigit b || b == 45) := rfl
    have e2 : decide ((c :: l).length ≤ 12) = decide (l.length ≤ 11) := by
      rw [List.length_cons]
      exact decide_eq_decide.mpr (by omega)
    have e3 : decide (1 ≤ (c :: l).length) = true := decide_eq_true (by rw [List.length_cons]; omega)
    have e4 : (List.all (c :: l) fun b => smallB b || Dz01.isDigit b || decide (b = 45)) = ((smallB c || Dz01.isDigit c || decide (c = 45)) && l.all fun b => (decide (97 ≤ b) && decide (b ≤ 122)) || Dz01.isDigit b || b == 45) := rfl
    rw [e, e2, e3, e4]
    show _ = (true && decide (l.length ≤ 11) && smallB c && _)
    cases hs : smallB c with
    | false =>
      have h1 : (decide (97 ≤ c) && decide (c ≤ 122)) = false := hs
      rw [h1]
      simp
    | true =>
      have h1 : (decide (97 ≤ c) && decide (c ≤ 122)) = true := hs
      rw [h1]
      simp
end
section
variable {P : Program} {w : World} {K : PySem.W.Frag} {mg : Str → Option Value} {base : Heap} {Ts : List (Addr × Str)} {Ct Cs : Addr}
/-! ### words -/
theorem vn_len (l : List Nat) : (vn l).length = l.length := List.length_map ..
theorem vn_get {l : List Nat} {i n : Nat} (h : l[i]? = some n) : (vn l)[i]? = some (.int (n : Int)) := by
  unfold vn
  rw [List.getElem?_map, h]
  rfl
theorem vn_app (a b : List Nat) : vn (a ++ b) = vn a ++ vn b := List.map_append
theorem vn_inj {a b : List Nat} : (vn a = vn b) ↔ a = b := by
  constructor
  · intro h
    unfold vn at h
    exact (List.map_inj_right (fun x y e => by cases e; rfl)).mp h
  · rintro rfl
    rfl
theorem drop_take_get {α : Type} (l : List α) (a b k : Nat) : ((l.drop a).take b)[k]? = if k < b then l[a + k]? else none := by
  rw [List.getElem?_take]
  split
  · rw [List.getElem?_drop]
  · rfl
theorem cut_ij {α : Type} {l : List α} {a b c d : Nat} (h1 : a = min c l.length) (h2 : b = min d l.length) : (l.drop a).take (b - a) = (l.drop c).take (d - c) := by
  refine List.ext_getElem? fun k => ?_
  rw [drop_take_get, drop_take_get]
  by_cases q : k < b - a
  · rw [if_pos q, if_pos (by omega), show a = c by omega]
  · rw [if_neg q]
    split
    · exact (List.getElem?_eq_none (by omega)).symm
    · rfl
theorem cutV_ij {l : List Nat} {i j : Nat} : cutV (vn l) (some (i : Int)) (some (j : Int)) = vn ((l.drop i).take (j - i)) := by
  have e1 : ∀ (n d k : Nat), HT.sIx n d (some (k : Int)) = min k n := fun n d k => by
    show (if (k : Int) < 0 then ((k : Int) + (n : Int)).toNat else min (k : Int).toNat n) = _
    rw [if_neg (by omega)]
    omega
  unfold cutV
  rw [e1, e1, vn_len, ← vn_len l, cut_ij rfl rfl]
  unfold vn
  rw [List.map_take, List.map_drop]
theorem cutV_0j {l : List Nat} {j : Nat} : cutV (vn l) none (some (j : Int)) = vn (l.take j) := by
  have e1 : ∀ (n d k : Nat), HT.sIx n d (some (k : Int)) = min k n := fun n d k => by
    show (if (k : Int) < 0 then ((k : Int) + (n : Int)).toNat else min (k : Int).toNat n) = _
    rw [if_neg (by omega)]
    omega
  unfold cutV
  rw [e1]
  show ((vn l).drop 0).take (min j (vn l).length - 0) = _
  rw [cut_ij (c := 0) (d := j) (by omega) rfl]
  unfold vn
  rw [List.map_take]
  rfl
theorem cutV_i0 {l : List Nat} {i : Nat} : cutV (vn l) (some (i : Int)) none = vn (l.drop i) := by
  have e1 : ∀ (n d k : Nat), HT.sIx n d (some (k : Int)) = min k n := fun n d k => by
    show (if (k : Int) < 0 then ((k : Int) + (n : Int)).toNat else min (k : Int).toNat n) = _
    rw [if_neg (by omega)]
    omega
  unfold cutV
  rw [e1]
  show ((vn l).drop (min i (vn l).length)).take ((vn l).length - _) = _
  have e : (vn l).length = min (vn l).length (vn l).length := by omega
  rw [cut_ij (c := i) (d := (vn l).length) rfl e]
  unfold vn
  rw [List.map_drop]
  refine List.take_of_length_le ?_
  rw [List.length_drop]
  exact Nat.le_refl _
/-- a list of ints as data -/
def dpl (l : List Nat) : PyData := .list (l.map fun (n : Nat) => PyData.int (n : Int))
theorem dp_all {H : Hp} : ∀ l : List Nat, DpAll K H (vn l) (l.map fun (n : Nat) => PyData.int (n : Int))
  | [] => .nil
  | n :: l => .cons (.int _) (dp_all l)
theorem dp_vn {H : Hp} {a : Addr} {l : List Nat} (h : SqL K H a (vn l)) : Dp K H (.ref a) (dpl l) := .lst h (dp_all l)
theorem can_dpl : ∀ l : List Nat, PyData.canLayAll0 (l.map fun (n : Nat) => PyData.int (n : Int)) = true
  | [] => by simp only [List.map_nil, PyData.canLayAll0]
  | n :: l => by
    rw [List.map_cons]
    simp only [PyData.canLayAll0, PyData.canLay0, can_dpl l, Bool.and_true]
theorem dep_dpl : ∀ l : List Nat, PyData.depthAll (l.map fun (n : Nat) => PyData.int (n : Int)) ≤ 1
  | [] => by simp only [List.map_nil, PyData.depthAll]; omega
  | n :: l => by
    rw [List.map_cons]
    have := dep_dpl l
    simp only [PyData.depthAll, PyData.depth]
    omega
theorem shaped_dpl (l : List Nat) : SeqAt.shaped (dpl l) = true := by
  unfold SeqAt.shaped dpl
  have := dep_dpl l
  simp only [PyData.canLay0, can_dpl, PyData.depth, Bool.true_and]
  exact decide_eq_true (by omega)
theorem eqvAll_dpl : ∀ a b : List Nat, PyData.eqvAll (a.map fun (n : Nat) => PyData.int (n : Int)) (b.map fun (n : Nat) => PyData.int (n : Int)) = decide (a = b)
  | [], [] => by simp only [List.map_nil, PyData.eqvAll, decide_true]
  | x :: a, [] => by
    rw [List.map_cons, List.map_nil, decide_eq_false (fun h => by cases h)]
    simp only [PyData.eqvAll]
  | [], y :: b => by
    rw [List.map_cons, List.map_nil, decide_eq_false (fun h => by cases h)]
    simp only [PyData.eqvAll]
  | x :: a, y :: b => by
    rw [List.map_cons, List.map_cons]
    simp only [PyData.eqvAll, PyData.eqv, eqvAll_dpl a b]
    by_cases h : x = y
    · subst h
      by_cases h2 : a = b
      · subst h2
        simp
      · simp [h2]
    · have h2 : ¬ (x : Int) = (y : Int) := by omega
      have h3 : ((x : Int) == (y : Int)) = false := by rw [beq_eq_false_iff_ne]; exact h2
      rw [h3]
      have h4 : ¬ x :: a = y :: b := fun z => h (List.cons.inj z).1
      rw [decide_eq_false h4]
      rfl
theorem eqv_dpl (a b : List Nat) : PyData.eqv (dpl a) (dpl b) = decide (a = b) := by
  unfold dpl
  simp only [PyData.eqv]
  exact eqvAll_dpl a b
theorem rd_izipS {ta : TA} {σ : L2.St} {H : Hp} {R : It → Hp → Prop} (h : ta σ H fun vs H1 => ∃ a xs x, vs = [.ref a, .str x] ∧ SqL K H1 a xs ∧ R (ItzS K a x) H1) : iZipS K ta σ H R := h
theorem rd_ienumK {ta tk : TA} {σ : L2.St} {H : Hp} {R : It → Hp → Prop} (h : ta σ H fun vs H1 => tk σ H1 fun zs H2 => ∃ a xs k, vs = [.ref a] ∧ zs = [.int k] ∧ -(2 ^ 63) ≤ k ∧ k < 2 ^ 63 ∧ SqL K H2 a xs ∧ R (IteC K k a) H2) : iEnumK K ta tk σ H R := h
theorem rd_eqD {H : Hp} {Q : VK} {a b : Addr} {l m : List Nat} (h1 : SqL K H a (vn l)) (h2 : SqL K H b (vn m)) (q : Q (.bl (decide (l = m))) H) : rEqD K (.ref a) (.ref b) H Q :=
  ⟨dpl l, dpl m, dp_vn h1, dp_vn h2, shaped_dpl l, shaped_dpl m, by rw [eqv_dpl]; exact q⟩
/-- of a byte -/
def spN1 (f : Nat → V) : Sp := fun vs H Q _ => ∃ n : Nat, vs = [.int (n : Int)] ∧ Q (f n) H
theorem rd_n1 {f : Nat → V} {n : Nat} {H : Hp} {Q : VK} {E : XK} (q : Q (f n) H) : spN1 f ([.int (n : Int)] ++ []) H Q E := ⟨n, rfl, q⟩
/-- of a list of bytes, a plain value; the heap may grow -/
def spB1 (Ts : List (Addr × Str)) (C : List Nat → Prop) (f : List Nat → V) : Sp := fun vs H Q _ => ∃ (a : Addr) (l : List Nat), vs = [.ref a] ∧ H a = some (.lst (vn l)) ∧ C l ∧ Tabs Ts H ∧ ∀ H', Up Ts H H' → Q (f l) H'
theorem rd_b1 {C : List Nat → Prop} {f : List Nat → V} {a : Addr} {l : List Nat} {H : Hp} {Q : VK} {E : XK} (h : H a = some (.lst (vn l))) (c : C l) (t : Tabs Ts H) (q : ∀ H', Up Ts H H' → Q (f l) H') : spB1 Ts C f ([.ref a] ++ []) H Q E := ⟨a, l, rfl, h, c, t, q⟩
theorem dec_nat {a b : Nat} : decide ((a : Int) ≤ (b : Int)) = decide (a ≤ b) := decide_eq_decide.mpr (by omega)
theorem sc_is_digit : FnScope ["byte"] ["byte"] (defScope (top 94)) := ⟨rfl, rfl, rfl, by decide +kernel, rfl, by decide +kernel, by decide +kernel⟩
theorem has_is_digit (C : Ctx P w K mg base Ts Ct Cs) : Has P w K mg base "is_digit" 1 ["byte"] (spN1 fun n => .bl (Dz01.isDigit n)) := by
  refine has_of C.t.d_is_digit sc_is_digit (fun vs H Q E h => by obtain ⟨a, rfl, _⟩ := h; rfl) (fun _ _ _ _ _ _ us hl => match us, hl with | [_], _ => rfl) fun f cdv A outer s H vs Q E hr h => ⟨_, (pss_one (ps_ret (pe_chain op_le op_le (pe_gi C.t.ZERO) (pv 0) (pe_gi C.t.NINE)))), ?_⟩
  obtain ⟨n, rfl, q⟩ := h
  have q : Q (.bl (Dz01.isDigit n)) H := q
  have e : Dz01.isDigit n = (decide ((48 : Int) ≤ (n : Int)) && decide ((n : Int) ≤ (57 : Int))) := by
    unfold Dz01.isDigit
    congr 1
    · exact decide_eq_decide.mpr (by omega)
    · exact decide_eq_decide.mpr (by omega)
  rw [e] at q
  walk_at "rz"
  exact q
theorem sc_is_small_letter : FnScope ["byte"] ["byte"] (defScope (top 95)) := ⟨rfl, rfl, rfl, by decide +kernel, rfl, by decide +kernel, by decide +kernel⟩
theorem has_is_small_letter (C : Ctx P w K mg base Ts Ct Cs) : Has P w K mg base "is_small_letter" 1 ["byte"] (spN1 fun n => .bl (smallB n)) := by
  refine has_of C.t.d_is_small_letter sc_is_small_letter (fun vs H Q E h => by obtain ⟨a, rfl, _⟩ := h; rfl) (fun _ _ _ _ _ _ us hl => match us, hl with | [_], _ => rfl) fun f cdv A outer s H vs Q E hr h => ⟨_, (pss_one (ps_ret (pe_chain op_le op_le (pe_gi C.t.SMALL_A) (pv 0) (pe_gi C.t.SMALL_Z)))), ?_⟩
  obtain ⟨n, rfl, q⟩ := h
  have q : Q (.bl (smallB n)) H := q
  have e : smallB n = (decide ((97 : Int) ≤ (n : Int)) && decide ((n : Int) ≤ (122 : Int))) := by
    unfold smallB
    congr 1
    · exact decide_eq_decide.mpr (by omega)
    · exact decide_eq_decide.mpr (by omega)
  rw [e] at q
  walk_at "rz"
  exact q
theorem sc_fits : FnScope ["word", "form", "byte", "sign"] ["word", "form"] (defScope (top 96)) := ⟨rfl, rfl, rfl, by decide +kernel, rfl, by decide +kernel, by decide +kernel⟩
def spFits (Ts : List (Addr × Str)) : Sp := fun vs H Q _ => ∃ (a : Addr) (l : List Nat) (x : Str), vs = [.ref a, .str x] ∧ H a = some (.lst (vn l)) ∧ x.cps.size ≤ 100 ∧ Tabs Ts H ∧ ∀ H', Up Ts H H' → Q (.bl (fitsB l x.cps.toList)) H'
theorem has_fits (C : Ctx P w K mg base Ts Ct Cs) : Has P w K mg base "fits" 2 ["word", "form"] (spFits Ts) := by
  refine has_of C.t.d_fits sc_fits (fun vs H Q E h => by obtain ⟨a, _, b, rfl, _⟩ := h; rfl) (fun _ _ _ _ _ _ us hl => match us, hl with | [_, _], _ => rfl) fun f cdv A outer s H vs Q E hr h => ⟨_, (pss_cons (ps_if (pt_cmpR op_ne (pe_callB call_len_seq (by rfl) C.t.len_ (by decide +kernel) (pa_cons (pv 0) pa_nil)) (pe_callB call_len_str (by rfl) C.t.len_ (by decide +kernel) (pa_cons (pv 1) pa_nil)) (nomark _)) (pss_one (ps_ret pe_bl)) pss_nil) (pss_cons (ps_for PassesOwn.never rfl (pi_zipS (by rfl) C.t.zip_ (pa_cons (pv 0) (pa_cons (pv 1) pa_nil))) (pg_tup rfl (pgs_cons (pg_name (i := 2) sc_fits.nd rfl (Or.inl rfl)) (pgs_cons (pg_name (i := 3) sc_fits.nd rfl (Or.inl rfl)) pgs_nil))) (pss_one (ps_if (pt_cmpR op_eq (pv 3) pe_str (nomark _)) (pss_one (ps_if (pt_not (pt_val (pe_h (has_is_digit C) (hr.mono (by decide)) rfl (pa_cons (pv 2) pa_nil)))) (pss_one (ps_ret pe_bl)) pss_nil)) (pss_one (ps_if (pt_cmpR op_ne (pv 2) (pe_callB call_ord (by rfl) C.t.ord_ (by decide +kernel) (pa_cons (pv 3) pa_nil)) (nomark _)) (pss_one (ps_ret pe_bl)) pss_nil))))) (pss_one (ps_ret pe_bl)))), ?_⟩
  obtain ⟨a, l, x, rfl, ha, hx, tb, q⟩ := h
  walk_at "rx"
  refine ⟨a, vn l, rfl, .inl (SqL.of ha), ?_⟩
  walk_at "rx"
  refine ⟨x, rfl, Nat.le_trans hx (by decide), ?_⟩
  walk_at "rx"
  have xl : x.cps.toList.length = x.cps.size := rfl
  refine rd_nd (fun c => ?_) (fun c => ?_)
  · walk_at "rx"
    have e : fitsB l x.cps.toList = false := by
      cases z : fitsB l x.cps.toList with
      | false => rfl
      | true =>
        have := fits_len z
        refine absurd ?_ c
        rw [vn_len, this]
        rfl
    have q := q H (Up.refl tb)
    rw [e] at q
    exact q
  have hl : l.length = x.cps.size := by
    rw [vn_len] at c
    have : ((l.length : Nat) : Int) = ((x.cps.size : Nat) : Int) := c
    omega
  walk_at "rx"
  refine rd_for (rd_izipS ?_)
  walk_at "rx"
  refine ⟨a, vn l, x, rfl, SqL.of ha, for_zipS (xs := vn l) (by rw [vn_len]; exact hl) (fun i σ H' => ∃ v2 v3 : Option V, σ = [some (.ref a), some (.str x), v2, v3] ∧ Up Ts H H' ∧ ∀ (k b c : Nat), k < i → l[k]? = some b → x.cps.toList[k]? = some c → okB b c = true) ⟨none, none, rfl, Up.refl tb, fun k b c z => absurd z (Nat.not_lt_zero _)⟩ ?_ ?_ ?_⟩
  · rintro i σ H' ⟨v2, v3, rfl, u, _⟩
    exact SqL.of (u.lst ha)
  · rintro i y c T σ H' hy hc ⟨v2, v3, rfl, u, inv⟩ hT
    have hi : i < l.length := by
      have := get_lt hy
      rw [vn_len] at this
      exact this
    have hb : l[i]? = some l[i] := List.getElem?_eq_getElem hi
    generalize l[i] = b at hb
    rw [vn_get hb] at hy
    cases hy
    have hc' : x.cps.toList[i]? = some c := by
      rw [Array.getElem?_toList]
      exact hc
    have u1 := u.new2 (o := .tup [.int (b : Nat), .str ⟨#[c]⟩]) hT
    refine rd_unp2 (SqT.of upd_same) ?_
    walk_at "rx"
    have ed : (({ cps := #[c] } : Str) = "d") ↔ c = 100 := by
      constructor
      · intro z
        have z2 : #[c] = (Str.ofString "d").cps := congrArg Str.cps z
        have z3 : (Str.ofString "d").cps = #[100] := by decide +kernel
        rw [z3] at z2
        have := congrArg Array.toList z2
        exact (List.cons.inj this).1
      · rintro rfl
        have z3 : Str.ofString "d" = ⟨#[100]⟩ := by decide +kernel
        exact z3.symm
    refine rd_d (fun h1 => ?_) (fun h1 => ?_)
    · have hc1 := ed.mp h1
      subst hc1
      walk_at "rx"
      refine rd_n1 ?_
      walk_at "rx"
      refine rd_nb (fun h2 => ?_) (fun h2 => ?_)
      · walk_at "rx"
        have q := q _ u1
        rw [fits_not hb hc' (by rw [okB_d]; exact h2)] at q
        exact q
      · walk_at "rx"
        refine ⟨_, _, rfl, u1, fun k b' c' hk e1 e2 => ?_⟩
        by_cases z : k = i
        · subst z
          rw [hb] at e1
          rw [hc'] at e2
          cases e1
          cases e2
          rw [okB_d]
          exact h2
        · exact inv k b' c' (by omega) e1 e2
    · have hc1 : c ≠ 100 := fun z => h1 (ed.mpr z)
      walk_at "rx"
      refine ⟨⟨#[c]⟩, rfl, rfl, ?_⟩
      show rNe (.int (b : Int)) (.int (c : Int)) _ _
      walk_at "rx"
      refine rd_nd (fun h2 => ?_) (fun h2 => ?_)
      · walk_at "rx"
        have q := q _ u1
        have ok : okB b c = false := by
          unfold okB
          rw [if_neg hc1]
          exact decide_eq_false (fun z => h2 (by rw [z]))
        rw [fits_not hb hc' ok] at q
        exact q
      · walk_at "rx"
        refine ⟨_, _, rfl, u1, fun k b' c' hk e1 e2 => ?_⟩
        by_cases z : k = i
        · subst z
          rw [hb] at e1
          rw [hc'] at e2
          cases e1
          cases e2
          exact (okB_n hc1).mpr (by omega)
        · exact inv k b' c' (by omega) e1 e2
  · rintro σ H' ⟨v2, v3, rfl, u, inv⟩
    walk_at "rx"
    have q := q H' u
    rw [fits_of (by rw [xl]; exact hl) (fun i b c e1 e2 => inv i b c (by rw [vn_len]; exact get_lt e1) e1 e2)] at q
    exact q
theorem sc_number_of : FnScope ["digits", "number", "byte"] ["digits"] (defScope (top 97)) := ⟨rfl, rfl, rfl, by decide +kernel, rfl, by decide +kernel, by decide +kernel⟩
theorem has_number_of (C : Ctx P w K mg base Ts Ct Cs) : Has P w K mg base "number_of" 1 ["digits"] (spB1 Ts (fun l => DG l ∧ l.length ≤ 50) fun l => .int (Dz01.natOf l : Nat)) := by
  refine has_of C.t.d_number_of sc_number_of (fun vs H Q E h => by obtain ⟨a, _, rfl, _⟩ := h; rfl) (fun _ _ _ _ _ _ us hl => match us, hl with | [_], _ => rfl) fun f cdv A outer s H vs Q E hr h => ⟨_, (pss_cons (ps_set (i := 1) sc_number_of.nd rfl (Or.inl rfl) pe_int) (pss_cons (ps_for PassesOwn.never rfl (pi_list (pv 0)) (pg_name (i := 2) sc_number_of.nd rfl (Or.inl rfl)) (pss_one (ps_set (i := 1) sc_number_of.nd rfl (Or.inl rfl) (pe_op op_sub (pe_op op_add (pe_op op_mulW (pv 1) pe_int) (pv 2)) (pe_gi C.t.ZERO))))) (pss_one (ps_ret (pv 1))))), ?_⟩
  obtain ⟨a, l, rfl, ha, ⟨dl, ll⟩, tb, q⟩ := h
  walk_at "rx"
  refine rd_for ?_
  walk_at "rx"
  refine ⟨⟨vn l, SqL.of ha⟩, for_list (xs := vn l) (fun i σ H' => H' = H ∧ ∃ v2 : Option V, σ = [some (.ref a), some (.int (Dz01.natOf (l.take i) : Nat)), v2]) ⟨rfl, none, rfl⟩ (fun i σ H' _ ⟨e, _⟩ => by rw [e]; exact SqL.of ha) ?_ ?_⟩
  · rintro i y σ H' hy ⟨rfl, v2, rfl⟩
    have hi : i < l.length := by
      have := get_lt hy
      rw [vn_len] at this
      exact this
    have hb : l[i]? = some l[i] := List.getElem?_eq_getElem hi
    generalize l[i] = b at hb
    rw [vn_get hb] at hy
    cases hy
    have db := digit_bd (dl b (List.mem_of_getElem? hb))
    have nb := natOf_bd (l := l.take i) (n := 50) (Nat.le_trans (List.length_take_le' ..) ll) fun b hb => dl b (List.mem_of_mem_take hb)
    have e50 : (10 : Nat) ^ 50 = 100000000000000000000000000000000000000000000000000 := by decide
    walk_at "rx"
    refine ⟨rfl, some (.int (b : Nat)), ?_⟩
    rw [take_snoc hb, natOf_snoc]
    have e : ((10 * Dz01.natOf (List.take i l) + (b - 48) : Nat) : Int) = (Dz01.natOf (List.take i l) : Int) * 10 + (b : Int) - 48 := by omega
    rw [e]
    rfl
  · rintro σ H' ⟨rfl, v2, rfl⟩
    rw [vn_len, List.take_length]
    walk_at "rx"
    exact q H' (Up.refl tb)
end
section
variable {P : Program} {w : World} {K : PySem.W.Frag} {mg : Str → Option Value} {base : Heap} {Ts : List (Addr × Str)} {Ct Cs : Addr}
section
variable {σ : L2.St} {H : Hp} {ta tb : TE} {c d : TT} {Q : VK} {QB : Bool → Hp → Prop}
theorem rd_orG {b1 b2 : Bool} (G : Hp → Prop) (h1 : ∀ Q1 : Bool → Hp → Prop, (∀ H1, G H1 → Q1 b1 H1) → c σ H Q1) (h2 : ∀ H1, G H1 → ∀ Q1 : Bool → Hp → Prop, (∀ H2, G H2 → Q1 b2 H2) → d σ H1 Q1) (q : ∀ H', G H' → QB (b1 || b2) H') : tOr c d σ H QB := by
  refine h1 _ fun H1 g1 => ?_
  cases b1
  · exact iteF (h2 H1 g1 _ q)
  · exact iteT (q H1 g1)
theorem rd_andG {b1 b2 : Bool} (G : Hp → Prop) (h1 : ∀ Q1 : Bool → Hp → Prop, (∀ H1, G H1 → Q1 b1 H1) → c σ H Q1) (h2 : ∀ H1, G H1 → b1 = true → ∀ Q1 : Bool → Hp → Prop, (∀ H2, G H2 → Q1 b2 H2) → d σ H1 Q1) (q : ∀ H', G H' → QB (b1 && b2) H') : tAnd c d σ H QB := by
  refine h1 _ fun H1 g1 => ?_
  cases b1
  · exact iteF (q H1 g1)
  · exact iteT (h2 H1 g1 rfl _ q)
theorem rd_andVG {b1 b2 : Bool} (G : Hp → Prop) (h1 : ∀ Q1 : VK, (∀ H1, G H1 → Q1 (.bl b1) H1) → ta σ H Q1) (h2 : ∀ H1, G H1 → b1 = true → ∀ Q1 : VK, (∀ H2, G H2 → Q1 (.bl b2) H2) → tb σ H1 Q1) (q : ∀ H', G H' → Q (.bl (b1 && b2)) H') : tAndV ta tb σ H Q := by
  refine h1 _ fun H1 g1 => ⟨b1, rfl, ?_⟩
  cases b1
  · exact iteF (q H1 g1)
  · exact iteT (h2 H1 g1 rfl _ q)
theorem rd_aV (h : ta σ H fun x H1 => ∃ c, x = .bl c ∧ if c = true then tb σ H1 Q else Q (.bl false) H1) : tAndV ta tb σ H Q := h
theorem rd_oV (h : ta σ H fun x H1 => ∃ c, x = .bl c ∧ if c = true then Q (.bl true) H1 else tb σ H1 Q) : tOrV ta tb σ H Q := h
theorem rd_aT (h : c σ H fun b H1 => if b = true then d σ H1 QB else QB false H1) : tAnd c d σ H QB := h
theorem rd_oT (h : c σ H fun b H1 => if b = true then QB true H1 else d σ H1 QB) : tOr c d σ H QB := h
end
def RetW (Ts : List (Addr × Str)) (H : Hp) (Q : VK) (l : List Nat) : Prop := ∀ H' p, Up Ts H H' → H' p = some (.lst (vn l)) → Q (.ref p) H'
theorem sc_without_minus : FnScope ["word"] ["word"] (defScope (top 98)) := ⟨rfl, rfl, rfl, by decide +kernel, rfl, by decide +kernel, by decide +kernel⟩
def spWM (Ts : List (Addr × Str)) : Sp := fun vs H Q _ => ∃ (a : Addr) (l : List Nat), vs = [.ref a] ∧ H a = some (.lst (vn l)) ∧ Tabs Ts H ∧ RetW Ts H Q (noM l)
theorem take1 {l : List Nat} : l.take 1 = [45] ↔ l.head? = some 45 := by
  match l with
  | [] => simp
  | c :: l =>
    show [c] = [45] ↔ some c = some 45
    simp
theorem noM_eq (l : List Nat) : noM l = if l.take 1 = [45] then l.drop 1 else l := by
  unfold noM
  by_cases h : l.head? = some 45
  · rw [if_pos h, if_pos (take1.mpr h), List.drop_one]
  · rw [if_neg h, if_neg fun z => h (take1.mp z)]
theorem sgn_eq (l : List Nat) (n : Int) : sgn l n = if l.take 1 = [45] then -n else n := by
  unfold sgn
  by_cases h : l.head? = some 45
  · rw [if_pos h, if_pos (take1.mpr h)]
  · rw [if_neg h, if_neg fun z => h (take1.mp z)]
theorem has_without_minus (C : Ctx P w K mg base Ts Ct Cs) : Has P w K mg base "without_minus" 1 ["word"] (spWM Ts) := by
  refine has_of C.t.d_without_minus sc_without_minus (fun vs H Q E h => by obtain ⟨a, _, rfl, _⟩ := h; rfl) (fun _ _ _ _ _ _ us hl => match us, hl with | [_], _ => rfl) fun f cdv A outer s H vs Q E hr h => ⟨_, (pss_cons (ps_if (pt_cmpR (op_eqD hr.units) (pe_slice sl_list (pv 0) po_none (po_some pe_int)) (pe_lst (pa_cons (pe_gi C.t.MINUS) pa_nil)) (nomark _)) (pss_one (ps_ret (pe_slice sl_list (pv 0) (po_some pe_int) po_none))) pss_nil) (pss_one (ps_ret (pv 0)))), ?_⟩
  obtain ⟨a, l, rfl, ha, tb, q⟩ := h
  rw [noM_eq] at q
  walk_at "rx"
  refine ⟨a, vn l, rfl, SqL.of ha, fun p hp => ?_⟩
  have e1 : cutV (vn l) none (some 1) = vn (l.take 1) := cutV_0j
  rw [e1]
  have u1 := Up.new (o := .lst (vn (l.take 1))) tb hp
  walk_at "rx"
  refine ⟨by show 1 ≤ sizeLine; decide, fun p2 hp2 => ?_⟩
  have u2 := u1.new2 (o := .lst [.int 45]) hp2
  refine rd_eqD (l := l.take 1) (m := [45]) (SqL.of (by rw [upd_ne (fun z => by rw [← z, upd_same] at hp2; cases hp2)]; exact upd_same)) (SqL.of upd_same) ?_
  walk_at "rx"
  refine rd_d (fun c => ?_) (fun c => ?_)
  · rw [if_pos c] at q
    walk_at "rx"
    refine ⟨a, vn l, rfl, SqL.of (u2.lst ha), fun p3 hp3 => ?_⟩
    have e2 : cutV (vn l) (some 1) none = vn (l.drop 1) := cutV_i0
    rw [e2]
    exact q _ p3 (u2.new2 hp3) upd_same
  · rw [if_neg c] at q
    walk_at "rx"
    exact q _ a u2 (u2.lst ha)
theorem sc_with_sign_of : FnScope ["word", "size"] ["word", "size"] (defScope (top 99)) := ⟨rfl, rfl, rfl, by decide +kernel, rfl, by decide +kernel, by decide +kernel⟩
def spWS (Ts : List (Addr × Str)) : Sp := fun vs H Q _ => ∃ (a : Addr) (l : List Nat) (n : Int), vs = [.ref a, .int n] ∧ H a = some (.lst (vn l)) ∧ Tabs Ts H ∧ ∀ H', Up Ts H H' → Q (.int (sgn l n)) H'
theorem has_with_sign_of (C : Ctx P w K mg base Ts Ct Cs) : Has P w K mg base "with_sign_of" 1 ["word", "size"] (spWS Ts) := by
  refine has_of C.t.d_with_sign_of sc_with_sign_of (fun vs H Q E h => by obtain ⟨a, _, _, rfl, _⟩ := h; rfl) (fun _ _ _ _ _ _ us hl => match us, hl with | [_, _], _ => rfl) fun f cdv A outer s H vs Q E hr h => ⟨_, (pss_cons (ps_if (pt_cmpR (op_eqD hr.units) (pe_slice sl_list (pv 0) po_none (po_some pe_int)) (pe_lst (pa_cons (pe_gi C.t.MINUS) pa_nil)) (nomark _)) (pss_one (ps_ret (pe_un un_neg (pv 1)))) pss_nil) (pss_one (ps_ret (pv 1)))), ?_⟩
  obtain ⟨a, l, n, rfl, ha, tb, q⟩ := h
  rw [sgn_eq] at q
  walk_at "rx"
  refine ⟨a, vn l, rfl, SqL.of ha, fun p hp => ?_⟩
  have e1 : cutV (vn l) none (some 1) = vn (l.take 1) := cutV_0j
  rw [e1]
  have u1 := Up.new (o := .lst (vn (l.take 1))) tb hp
  walk_at "rx"
  refine ⟨by show 1 ≤ sizeLine; decide, fun p2 hp2 => ?_⟩
  have u2 := u1.new2 (o := .lst [.int 45]) hp2
  refine rd_eqD (l := l.take 1) (m := [45]) (SqL.of (by rw [upd_ne (fun z => by rw [← z, upd_same] at hp2; cases hp2)]; exact upd_same)) (SqL.of upd_same) ?_
  walk_at "rx"
  refine rd_d (fun c => ?_) (fun c => ?_)
  · rw [if_pos c] at q
    walk_at "rx"
    exact q _ u2
  · rw [if_neg c] at q
    walk_at "rx"
    exact q _ u2
theorem sc_thousandths : FnScope ["word", "minutes"] ["word"] (defScope (top 100)) := ⟨rfl, rfl, rfl, by decide +kernel, rfl, by decide +kernel, by decide +kernel⟩
theorem ang_dg {l : List Nat} (h : fitsB l angF = true) : DG (l.take 2) ∧ DG ((l.drop 3).take 2) ∧ DG ((l.drop 6).take 2) ∧ DG ((l.drop 9).take 3) := by
  obtain ⟨a1, a2, b1, b2, c1, c2, d1, d2, d3, rfl, ha, hb, hc, hd⟩ := ang_form h
  have n0 : DG [] := fun b hb => by cases hb
  exact ⟨.mk ha.1 (.mk ha.2 n0), .mk hb.1 (.mk hb.2 n0), .mk hc.1 (.mk hc.2 n0), .mk hd.1 (.mk hd.2.1 (.mk hd.2.2 n0))⟩
theorem take_le {l : List Nat} {k : Nat} (h : k ≤ 50) : (l.take k).length ≤ 50 := Nat.le_trans (List.length_take_le k l) h
/-- number_of a slice -/
theorem has_thousandths (C : Ctx P w K mg base Ts Ct Cs) : Has P w K mg base "thousandths" 2 ["word"] (spB1 Ts (fun l => fitsB l angF = true) fun l => .int (thouN l : Nat)) := by
  refine has_of C.t.d_thousandths sc_thousandths (fun vs H Q E h => by obtain ⟨a, _, rfl, _⟩ := h; rfl) (fun _ _ _ _ _ _ us hl => match us, hl with | [_], _ => rfl) fun f cdv A outer s H vs Q E hr h => ⟨_, (pss_cons (ps_set (i := 1) sc_thousandths.nd rfl (Or.inl rfl) (pe_op op_add (pe_op op_mulW (pe_h (has_number_of C) (hr.mono (by decide)) rfl (pa_cons (pe_slice sl_list (pv 0) (po_some pe_int) (po_some pe_int)) pa_nil)) pe_int) (pe_h (has_number_of C) (hr.mono (by decide)) rfl (pa_cons (pe_slice sl_list (pv 0) (po_some pe_int) (po_some pe_int)) pa_nil)))) (pss_one (ps_ret (pe_op op_add (pe_op op_mulW (pe_op op_add (pe_op op_mulW (pv 1) pe_int) (pe_h (has_number_of C) (hr.mono (by decide)) rfl (pa_cons (pe_slice sl_list (pv 0) (po_some pe_int) (po_some pe_int)) pa_nil))) pe_int) (pe_h (has_number_of C) (hr.mono (by decide)) rfl (pa_cons (pe_slice sl_list (pv 0) (po_some pe_int) (po_some pe_int)) pa_nil)))))), ?_⟩
  obtain ⟨a, l, rfl, ha, hf, tb, q⟩ := h
  obtain ⟨g1, g2, g3, g4⟩ := ang_dg hf
  have n1 := natOf_bd (n := 2) (List.length_take_le 2 l) g1
  have n2 := natOf_bd (n := 2) (List.length_take_le 2 (l.drop 3)) g2
  have n3 := natOf_bd (n := 2) (List.length_take_le 2 (l.drop 6)) g3
  have n4 := natOf_bd (n := 3) (List.length_take_le 3 (l.drop 9)) g4
  walk_at "rx"
  refine ⟨a, vn l, rfl, SqL.of ha, fun p1 hp1 => ?_⟩
  have e1 : cutV (vn l) (some 0) (some 2) = vn (l.take 2) := cutV_ij (i := 0) (j := 2)
  rw [e1]
  walk_at "rx"
  have u1 := Up.new (o := .lst (vn (l.take 2))) tb hp1
  refine rd_b1 upd_same ⟨g1, take_le (by decide)⟩ u1.2 fun H2 u2 => ?_
  walk_at "rx"
  have U2 := u1.trans u2
  refine ⟨a, vn l, rfl, SqL.of (U2.lst ha), fun p3 hp3 => ?_⟩
  have e3 : cutV (vn l) (some 3) (some 5) = vn ((l.drop 3).take 2) := cutV_ij (i := 3) (j := 5)
  rw [e3]
  walk_at "rx"
  have U3 := U2.new2 (o := .lst (vn ((l.drop 3).take 2))) hp3
  refine rd_b1 upd_same ⟨g2, take_le (by decide)⟩ U3.2 fun H4 u4 => ?_
  walk_at "rx"
  have U4 := U3.trans u4
  refine ⟨a, vn l, rfl, SqL.of (U4.lst ha), fun p5 hp5 => ?_⟩
  have e5 : cutV (vn l) (some 6) (some 8) = vn ((l.drop 6).take 2) := cutV_ij (i := 6) (j := 8)
  rw [e5]
  walk_at "rx"
  have U5 := U4.new2 (o := .lst (vn ((l.drop 6).take 2))) hp5
  refine rd_b1 upd_same ⟨g3, take_le (by decide)⟩ U5.2 fun H6 u6 => ?_
  walk_at "rx"
  have U6 := U5.trans u6
  refine ⟨a, vn l, rfl, SqL.of (U6.lst ha), fun p7 hp7 => ?_⟩
  have e7 : cutV (vn l) (some 9) (some 12) = vn ((l.drop 9).take 3) := cutV_ij (i := 9) (j := 12)
  rw [e7]
  walk_at "rx"
  have U7 := U6.new2 (o := .lst (vn ((l.drop 9).take 3))) hp7
  refine rd_b1 upd_same ⟨g4, take_le (by decide)⟩ U7.2 fun H8 u8 => ?_
  walk_at "rx"
  exact q H8 (U7.trans u8)
theorem sc_is_sixtieths : FnScope ["word"] ["word"] (defScope (top 101)) := ⟨rfl, rfl, rfl, by decide +kernel, rfl, by decide +kernel, by decide +kernel⟩
theorem has_is_sixtieths (C : Ctx P w K mg base Ts Ct Cs) : Has P w K mg base "is_sixtieths" 3 ["word"] (spB1 Ts (fun _ => True) fun l => .bl (sixB l)) := by
  refine has_of C.t.d_is_sixtieths sc_is_sixtieths (fun vs H Q E h => by obtain ⟨a, _, rfl, _⟩ := h; rfl) (fun _ _ _ _ _ _ us hl => match us, hl with | [_], _ => rfl) fun f cdv A outer s H vs Q E hr h => ⟨_, (pss_one (ps_ret (pe_and (pe_h (has_fits C) (hr.mono (by decide)) rfl (pa_cons (pv 0) (pa_cons (pe_gs C.t.ANGLE_FORM) pa_nil))) (pe_and (pe_cmpR op_lt (pe_h (has_number_of C) (hr.mono (by decide)) rfl (pa_cons (pe_slice sl_list (pv 0) (po_some pe_int) (po_some pe_int)) pa_nil)) pe_int (nomark _)) (pe_one (pe_cmpR op_lt (pe_h (has_number_of C) (hr.mono (by decide)) rfl (pa_cons (pe_slice sl_list (pv 0) (po_some pe_int) (po_some pe_int)) pa_nil)) pe_int (nomark _))))))), ?_⟩
  obtain ⟨a, l, rfl, ha, _, tb, q⟩ := h
  have q : ∀ H', Up Ts H H' → Q (.bl (fitsB l angF && (decide (Dz01.natOf ((l.drop 3).take 2) < 60) && decide (Dz01.natOf ((l.drop 6).take 2) < 60)))) H' := q
  have ea : (Str.ofString "dd:dd:dd.ddd").cps.toList = angF := by decide +kernel
  have es : (Str.ofString "dd:dd:dd.ddd").cps.size ≤ 100 := by decide +kernel
  have dl : ∀ n : Nat, decide ((n : Int) < 60) = decide (n < 60) := fun n => decide_eq_decide.mpr (by omega)
  walk_at "rx"
  refine rd_aV ?_
  walk_at "rx"
  refine ⟨a, l, _, rfl, ha, es, tb, fun H1 u1 => ?_⟩
  rw [ea]
  walk_at "rx"
  refine rd_b (fun c => ?_) (fun c => ?_)
  · rw [c] at q
    obtain ⟨g1, g2, g3, g4⟩ := ang_dg c
    refine rd_aV ?_
    walk_at "rx"
    refine ⟨a, vn l, rfl, SqL.of (u1.lst ha), fun p2 hp2 => ?_⟩
    have e3 : cutV (vn l) (some 3) (some 5) = vn ((l.drop 3).take 2) := cutV_ij (i := 3) (j := 5)
    rw [e3]
    walk_at "rx"
    have U2 := u1.new2 (o := .lst (vn ((l.drop 3).take 2))) hp2
    refine rd_b1 upd_same ⟨g2, take_le (by decide)⟩ U2.2 fun H3 u3 => ?_
    walk_at "rx"
    have U3 := U2.trans u3
    rw [dl]
    refine rd_b (fun c => ?_) (fun c => ?_)
    · rw [c] at q
      walk_at "rx"
      refine ⟨a, vn l, rfl, SqL.of (U3.lst ha), fun p4 hp4 => ?_⟩
      have e5 : cutV (vn l) (some 6) (some 8) = vn ((l.drop 6).take 2) := cutV_ij (i := 6) (j := 8)
      rw [e5]
      walk_at "rx"
      have U4 := U3.new2 (o := .lst (vn ((l.drop 6).take 2))) hp4
      refine rd_b1 upd_same ⟨g3, take_le (by decide)⟩ U4.2 fun H5 u5 => ?_
      walk_at "rx"
      rw [dl]
      exact q H5 (U4.trans u5)
    · rw [c] at q
      exact q H3 U3
  · rw [c] at q
    exact q H1 u1
theorem sc_is_right_ascension : FnScope ["word"] ["word"] (defScope (top 103)) := ⟨rfl, rfl, rfl, by decide +kernel, rfl, by decide +kernel, by decide +kernel⟩
theorem has_is_right_ascension (C : Ctx P w K mg base Ts Ct Cs) : Has P w K mg base "is_right_ascension" 4 ["word"] (spB1 Ts (fun _ => True) fun l => .bl (sixB l && decide (Dz01.natOf (l.take 2) < 24))) := by
  refine has_of C.t.d_is_right_ascension sc_is_right_ascension (fun vs H Q E h => by obtain ⟨a, _, rfl, _⟩ := h; rfl) (fun _ _ _ _ _ _ us hl => match us, hl with | [_], _ => rfl) fun f cdv A outer s H vs Q E hr h => ⟨_, (pss_one (ps_ret (pe_and (pe_h (has_is_sixtieths C) (hr.mono (by decide)) rfl (pa_cons (pv 0) pa_nil)) (pe_one (pe_cmpR op_lt (pe_h (has_number_of C) (hr.mono (by decide)) rfl (pa_cons (pe_slice sl_list (pv 0) (po_some pe_int) (po_some pe_int)) pa_nil)) pe_int (nomark _)))))), ?_⟩
  obtain ⟨a, l, rfl, ha, _, tb, q⟩ := h
  have q : ∀ H', Up Ts H H' → Q (.bl (sixB l && decide (Dz01.natOf (l.take 2) < 24))) H' := q
  have dl : ∀ n : Nat, decide ((n : Int) < 24) = decide (n < 24) := fun n => decide_eq_decide.mpr (by omega)
  walk_at "rx"
  refine rd_aV ?_
  walk_at "rx"
  refine rd_b1 ha trivial tb fun H1 u1 => ?_
  walk_at "rx"
  refine rd_b (fun c => ?_) (fun c => ?_)
  · have f : fitsB l angF = true := by
      unfold sixB at c
      rw [Bool.and_eq_true] at c
      exact c.1
    rw [c] at q
    obtain ⟨g1, g2, g3, g4⟩ := ang_dg f
    walk_at "rx"
    refine ⟨a, vn l, rfl, SqL.of (u1.lst ha), fun p2 hp2 => ?_⟩
    have e3 : cutV (vn l) (some 0) (some 2) = vn (l.take 2) := cutV_ij (i := 0) (j := 2)
    rw [e3]
    walk_at "rx"
    have U2 := u1.new2 (o := .lst (vn (l.take 2))) hp2
    refine rd_b1 upd_same ⟨g1, take_le (by decide)⟩ U2.2 fun H3 u3 => ?_
    walk_at "rx"
    rw [dl]
    exact q H3 (U2.trans u3)
  · rw [c] at q
    exact q H1 u1
theorem sc_right_ascension_of : FnScope ["word"] ["word"] (defScope (top 104)) := ⟨rfl, rfl, rfl, by decide +kernel, rfl, by decide +kernel, by decide +kernel⟩
theorem has_right_ascension_of (C : Ctx P w K mg base Ts Ct Cs) : Has P w K mg base "right_ascension_of" 3 ["word"] (spB1 Ts (fun l => fitsB l angF = true) fun l => .int (15 * (thouN l : Int))) := by
  refine has_of C.t.d_right_ascension_of sc_right_ascension_of (fun vs H Q E h => by obtain ⟨a, _, rfl, _⟩ := h; rfl) (fun _ _ _ _ _ _ us hl => match us, hl with | [_], _ => rfl) fun f cdv A outer s H vs Q E hr h => ⟨_, (pss_one (ps_ret (pe_op op_mulW (pe_h (has_thousandths C) (hr.mono (by decide)) rfl (pa_cons (pv 0) pa_nil)) (pe_gi C.t.SECOND_OF_TIME)))), ?_⟩
  obtain ⟨a, l, rfl, ha, hf, tb, q⟩ := h
  obtain ⟨g1, g2, g3, g4⟩ := ang_dg hf
  have n1 := natOf_bd (n := 2) (List.length_take_le 2 l) g1
  have n2 := natOf_bd (n := 2) (List.length_take_le 2 (l.drop 3)) g2
  have n3 := natOf_bd (n := 2) (List.length_take_le 2 (l.drop 6)) g3
  have n4 := natOf_bd (n := 3) (List.length_take_le 3 (l.drop 9)) g4
  have nt : thouN l ≤ 1000000000 := by
    unfold thouN
    omega
  walk_at "rx"
  refine rd_b1 ha hf tb fun H1 u1 => ?_
  walk_at "rx"
  rw [Int.mul_comm]
  exact q H1 u1
theorem sc_is_declination : FnScope ["word"] ["word"] (defScope (top 105)) := ⟨rfl, rfl, rfl, by decide +kernel, rfl, by decide +kernel, by decide +kernel⟩
theorem has_is_declination (C : Ctx P w K mg base Ts Ct Cs) : Has P w K mg base "is_declination" 4 ["word"] (spB1 Ts (fun _ => True) fun l => .bl (decB l)) := by
  refine has_of C.t.d_is_declination sc_is_declination (fun vs H Q E h => by obtain ⟨a, _, rfl, _⟩ := h; rfl) (fun _ _ _ _ _ _ us hl => match us, hl with | [_], _ => rfl) fun f cdv A outer s H vs Q E hr h => ⟨_, (pss_cons (ps_if (pt_not (PW.pt (pw_or (pt_val (pe_h (has_fits C) (hr.mono (by decide)) rfl (pa_cons (pe_slice sl_list (pv 0) po_none (po_some pe_int)) (pa_cons pe_str pa_nil)))) (pw_or1 (pt_val (pe_h (has_fits C) (hr.mono (by decide)) rfl (pa_cons (pe_slice sl_list (pv 0) po_none (po_some pe_int)) (pa_cons pe_str pa_nil)))))))) (pss_one (ps_ret pe_bl)) pss_nil) (pss_one (ps_ret (pe_and (pe_h (has_is_sixtieths C) (hr.mono (by decide)) rfl (pa_cons (pe_slice sl_list (pv 0) (po_some pe_int) po_none) pa_nil)) (pe_one (pe_cmpR op_le (pe_h (has_thousandths C) (hr.mono (by decide)) rfl (pa_cons (pe_slice sl_list (pv 0) (po_some pe_int) po_none) pa_nil)) (pe_gi C.t.RIGHT_ANGLE) (nomark _))))))), ?_⟩
  obtain ⟨a, l, rfl, ha, _, tb, q⟩ := h
  have q : ∀ H', Up Ts H H' → Q (.bl ((fitsB (l.take 1) [43] || fitsB (l.take 1) [45]) && (sixB l.tail && decide (thouN l.tail ≤ 324000000)))) H' := q
  have ep : (Str.ofString "+").cps.toList = [43] := by decide +kernel
  have em : (Str.ofString "-").cps.toList = [45] := by decide +kernel
  have sp : (Str.ofString "+").cps.size ≤ 100 := by decide +kernel
  have sm : (Str.ofString "-").cps.size ≤ 100 := by decide +kernel
  have e1 : cutV (vn l) none (some 1) = vn (l.take 1) := cutV_0j
  have dl : ∀ n : Nat, decide ((n : Int) ≤ 324000000) = decide (n ≤ 324000000) := fun n => decide_eq_decide.mpr (by omega)
  have e2 : cutV (vn l) (some 1) none = vn l.tail := by
    rw [← List.drop_one]
    exact cutV_i0
  walk_at "rx"
  refine rd_orG (b1 := fitsB (l.take 1) [43]) (b2 := fitsB (l.take 1) [45]) (fun H' => Up Ts H H') (fun Q1 q1 => ?_) (fun H1 u1 Q1 q1 => ?_) (fun H1 u1 => ?_)
  · walk_at "rx"
    refine ⟨a, vn l, rfl, SqL.of ha, fun p1 hp1 => ?_⟩
    rw [e1]
    walk_at "rx"
    have u1 := Up.new (o := .lst (vn (l.take 1))) tb hp1
    refine ⟨p1, l.take 1, _, rfl, upd_same, sp, u1.2, fun H2 u2 => ?_⟩
    rw [ep]
    walk_at "rx"
    exact q1 H2 (u1.trans u2)
  · walk_at "rx"
    refine ⟨a, vn l, rfl, SqL.of (u1.lst ha), fun p1 hp1 => ?_⟩
    rw [e1]
    walk_at "rx"
    have u2 := u1.new2 (o := .lst (vn (l.take 1))) hp1
    refine ⟨p1, l.take 1, _, rfl, upd_same, sm, u2.2, fun H2 u3 => ?_⟩
    rw [em]
    walk_at "rx"
    exact q1 H2 (u2.trans u3)
  refine rd_nb (fun c => ?_) (fun c => ?_)
  · rw [c] at q
    walk_at "rx"
    exact q H1 u1
  rw [c] at q
  walk_at "rx"
  refine rd_andVG (b1 := sixB l.tail) (b2 := decide (thouN l.tail ≤ 324000000)) (fun H' => Up Ts H H') (fun Q1 q1 => ?_) (fun H2 u2 c2 Q1 q1 => ?_) q
  · walk_at "rx"
    refine ⟨a, vn l, rfl, SqL.of (u1.lst ha), fun p1 hp1 => ?_⟩
    rw [e2]
    walk_at "rx"
    have u2 := u1.new2 (o := .lst (vn l.tail)) hp1
    exact rd_b1 upd_same trivial u2.2 fun H3 u3 => q1 H3 (u2.trans u3)
  · have f : fitsB l.tail angF = true := by
      unfold sixB at c2
      rw [Bool.and_eq_true] at c2
      exact c2.1
    walk_at "rx"
    refine ⟨a, vn l, rfl, SqL.of (u2.lst ha), fun p1 hp1 => ?_⟩
    rw [e2]
    walk_at "rx"
    have u3 := u2.new2 (o := .lst (vn l.tail)) hp1
    refine rd_b1 upd_same f u3.2 fun H3 u4 => ?_
    walk_at "rx"
    rw [dl]
    exact q1 H3 (u3.trans u4)
theorem sc_declination_of : FnScope ["word"] ["word"] (defScope (top 106)) := ⟨rfl, rfl, rfl, by decide +kernel, rfl, by decide +kernel, by decide +kernel⟩
theorem has_declination_of (C : Ctx P w K mg base Ts Ct Cs) : Has P w K mg base "declination_of" 3 ["word"] (spB1 Ts (fun l => fitsB l.tail angF = true) fun l => .int (sgn l (thouN l.tail : Int))) := by
  refine has_of C.t.d_declination_of sc_declination_of (fun vs H Q E h => by obtain ⟨a, _, rfl, _⟩ := h; rfl) (fun _ _ _ _ _ _ us hl => match us, hl with | [_], _ => rfl) fun f cdv A outer s H vs Q E hr h => ⟨_, (pss_one (ps_ret (pe_h (has_with_sign_of C) (hr.mono (by decide)) rfl (pa_cons (pv 0) (pa_cons (pe_h (has_thousandths C) (hr.mono (by decide)) rfl (pa_cons (pe_slice sl_list (pv 0) (po_some pe_int) po_none) pa_nil)) pa_nil))))), ?_⟩
  obtain ⟨a, l, rfl, ha, hf, tb, q⟩ := h
  have e2 : cutV (vn l) (some 1) none = vn l.tail := by
    rw [← List.drop_one]
    exact cutV_i0
  walk_at "rx"
  refine ⟨a, vn l, rfl, SqL.of ha, fun p1 hp1 => ?_⟩
  rw [e2]
  walk_at "rx"
  have u1 := Up.new (o := .lst (vn l.tail)) tb hp1
  refine rd_b1 upd_same hf u1.2 fun H2 u2 => ?_
  walk_at "rx"
  exact ⟨a, l, _, rfl, (u1.trans u2).lst ha, u2.2, fun H3 u3 => q H3 ((u1.trans u2).trans u3)⟩
theorem sc_is_magnitude : FnScope ["word", "size", "form"] ["word"] (defScope (top 107)) := ⟨rfl, rfl, rfl, by decide +kernel, rfl, by decide +kernel, by decide +kernel⟩
theorem any_forms {u : List Nat} {F : List (List Nat)} {G : List Str} (h : G.map (fun x => x.cps.toList) = F) {i : Nat} {y : V} (e : (G.map V.str)[i]? = some y) : ∃ x g, y = .str x ∧ F[i]? = some g ∧ x.cps.toList = g := by
  rw [List.getElem?_map] at e
  cases q : G[i]? with
  | none =>
    rw [q] at e
    cases e
  | some x =>
    rw [q] at e
    exact ⟨x, x.cps.toList, (Option.some.inj e).symm, by rw [← h, List.getElem?_map, q]; rfl, rfl⟩
def magS : List Str := ["d", "d.d", "d.dd", "d.ddd", "dd", "dd.d", "dd.dd", "dd.ddd"]
def motS : List Str := ["d", "dd", "ddd", "dddd", "ddddd"]
theorem has_is_magnitude (C : Ctx P w K mg base Ts Ct Cs) : Has P w K mg base "is_magnitude" 3 ["word"] (spB1 Ts (fun _ => True) fun l => .bl ((magF.map (fitsB (noM l))).any id)) := by
  obtain ⟨aF, g_MAGNITUDE_FORMS, kF⟩ := C.t.MAGNITUDE_FORMS
  refine has_of C.t.d_is_magnitude sc_is_magnitude (fun vs H Q E h => by obtain ⟨a, _, rfl, _⟩ := h; rfl) (fun _ _ _ _ _ _ us hl => match us, hl with | [_], _ => rfl) fun f cdv A outer s H vs Q E hr h => ⟨_, (pss_cons (ps_set (i := 1) sc_is_magnitude.nd rfl (Or.inr rfl) (pe_h (has_without_minus C) (hr.mono (by decide)) rfl (pa_cons (pv 0) pa_nil))) (pss_one (ps_ret (pe_callB (cr_any rfl) (by rfl) C.t.any_ (by decide +kernel) (pa_cons (pe_lc (own := [("form", 2)]) rfl sc_is_magnitude.nd (pi_tup (pe_gl g_MAGNITUDE_FORMS)) (blkOk_by (N := ["word", "size", "form"]) (sc := defScope (top 107)) (by decide +kernel)) (fun _ _ _ _ _ => (pg_name (i := 2) sc_is_magnitude.nd rfl (Or.inl rfl) )) (fun _ _ _ _ _ => pts_nil) (fun _ _ _ _ _ => (pe_h (has_fits C) (hr.mono (by decide)) rfl (pa_cons (pv 1) (pa_cons (pv 2) pa_nil))))) pa_nil))))), ?_⟩
  obtain ⟨a, l, rfl, ha, _, tb, q⟩ := h
  have hF : magS.map (fun x => x.cps.toList) = magF := by decide +kernel
  have hz : ∀ g ∈ magF, g.length ≤ 100 := by decide +kernel
  walk_at "rx"
  refine ⟨a, l, rfl, ha, tb, fun H1 p1 u1 hp1 => ?_⟩
  walk_at "rx"
  refine ⟨⟨magS.map V.str, kF.sq H1⟩, fun D hD => ?_⟩
  have nD := Nw.of hD
  refine lc_tup (xs := magS.map V.str) (fun i H' => Up Ts H1 H' ∧ H' D = some (.lst (((magF.take i).map (fitsB (noM l))).map V.bl))) ⟨Up.new u1.2 hD, upd_same⟩ ?_ ?_ ?_
  · rintro i H' hi ⟨u, hD'⟩
    exact kF.sq H'
  · rintro i y H' hy ⟨u, hD'⟩
    obtain ⟨x, g, rfl, eg, ex⟩ := any_forms (u := []) hF hy
    walk_at "rx"
    refine ⟨rfl, ?_⟩
    walk_at "rx"
    refine ⟨p1, noM l, x, rfl, u.lst hp1, by have := hz g (List.mem_of_getElem? eg); rw [← ex] at this; exact this, u.2, fun H2 u2 => ?_⟩
    refine ⟨_, u2.lst hD', ?_, (u.trans u2).mut nD (u2.lst hD'), ?_⟩
    · rw [List.length_map, List.length_map]
      exact Nat.lt_of_le_of_lt (List.length_take_le' ..) (show 8 < sizeLine by decide)
    · rw [upd_same, take_snoc eg, List.map_append, List.map_append, ex]
      rfl
  · rintro H' ⟨u, hD'⟩
    have e8 : (magS.map V.str).length = magF.length := rfl
    rw [e8, List.take_length] at hD'
    walk_at "rx"
    exact ⟨D, _, rfl, SqL.of hD', q H' (u1.trans u)⟩
theorem sc_is_motion : FnScope ["word", "size", "form"] ["word"] (defScope (top 109)) := ⟨rfl, rfl, rfl, by decide +kernel, rfl, by decide +kernel, by decide +kernel⟩
theorem has_is_motion (C : Ctx P w K mg base Ts Ct Cs) : Has P w K mg base "is_motion" 3 ["word"] (spB1 Ts (fun _ => True) fun l => .bl ((motF.map (fitsB (noM l))).any id)) := by
  obtain ⟨aF, g_MOTION_FORMS, kF⟩ := C.t.MOTION_FORMS
  refine has_of C.t.d_is_motion sc_is_motion (fun vs H Q E h => by obtain ⟨a, _, rfl, _⟩ := h; rfl) (fun _ _ _ _ _ _ us hl => match us, hl with | [_], _ => rfl) fun f cdv A outer s H vs Q E hr h => ⟨_, (pss_cons (ps_set (i := 1) sc_is_motion.nd rfl (Or.inr rfl) (pe_h (has_without_minus C) (hr.mono (by decide)) rfl (pa_cons (pv 0) pa_nil))) (pss_one (ps_ret (pe_callB (cr_any rfl) (by rfl) C.t.any_ (by decide +kernel) (pa_cons (pe_lc (own := [("form", 2)]) rfl sc_is_motion.nd (pi_tup (pe_gl g_MOTION_FORMS)) (blkOk_by (N := ["word", "size", "form"]) (sc := defScope (top 109)) (by decide +kernel)) (fun _ _ _ _ _ => (pg_name (i := 2) sc_is_motion.nd rfl (Or.inl rfl) )) (fun _ _ _ _ _ => pts_nil) (fun _ _ _ _ _ => (pe_h (has_fits C) (hr.mono (by decide)) rfl (pa_cons (pv 1) (pa_cons (pv 2) pa_nil))))) pa_nil))))), ?_⟩
  obtain ⟨a, l, rfl, ha, _, tb, q⟩ := h
  have hF : motS.map (fun x => x.cps.toList) = motF := by decide +kernel
  have hz : ∀ g ∈ motF, g.length ≤ 100 := by decide +kernel
  walk_at "rx"
  refine ⟨a, l, rfl, ha, tb, fun H1 p1 u1 hp1 => ?_⟩
  walk_at "rx"
  refine ⟨⟨motS.map V.str, kF.sq H1⟩, fun D hD => ?_⟩
  have nD := Nw.of hD
  refine lc_tup (xs := motS.map V.str) (fun i H' => Up Ts H1 H' ∧ H' D = some (.lst (((motF.take i).map (fitsB (noM l))).map V.bl))) ⟨Up.new u1.2 hD, upd_same⟩ ?_ ?_ ?_
  · rintro i H' hi ⟨u, hD'⟩
    exact kF.sq H'
  · rintro i y H' hy ⟨u, hD'⟩
    obtain ⟨x, g, rfl, eg, ex⟩ := any_forms (u := []) hF hy
    walk_at "rx"
    refine ⟨rfl, ?_⟩
    walk_at "rx"
    refine ⟨p1, noM l, x, rfl, u.lst hp1, by have := hz g (List.mem_of_getElem? eg); rw [← ex] at this; exact this, u.2, fun H2 u2 => ?_⟩
    refine ⟨_, u2.lst hD', ?_, (u.trans u2).mut nD (u2.lst hD'), ?_⟩
    · rw [List.length_map, List.length_map]
      exact Nat.lt_of_le_of_lt (List.length_take_le' ..) (show 5 < sizeLine by decide)
    · rw [upd_same, take_snoc eg, List.map_append, List.map_append, ex]
      rfl
  · rintro H' ⟨u, hD'⟩
    have e8 : (motS.map V.str).length = motF.length := rfl
    rw [e8, List.take_length] at hD'
    walk_at "rx"
    exact ⟨D, _, rfl, SqL.of hD', q H' (u1.trans u)⟩
theorem sc_motion_of : FnScope ["word"] ["word"] (defScope (top 110)) := ⟨rfl, rfl, rfl, by decide +kernel, rfl, by decide +kernel, by decide +kernel⟩
theorem has_motion_of (C : Ctx P w K mg base Ts Ct Cs) : Has P w K mg base "motion_of" 2 ["word"] (spB1 Ts (fun l => DG (noM l) ∧ (noM l).length ≤ 5) fun l => .int (sgn l (Dz01.natOf (noM l) : Int))) := by
  refine has_of C.t.d_motion_of sc_motion_of (fun vs H Q E h => by obtain ⟨a, _, rfl, _⟩ := h; rfl) (fun _ _ _ _ _ _ us hl => match us, hl with | [_], _ => rfl) fun f cdv A outer s H vs Q E hr h => ⟨_, (pss_one (ps_ret (pe_h (has_with_sign_of C) (hr.mono (by decide)) rfl (pa_cons (pv 0) (pa_cons (pe_h (has_number_of C) (hr.mono (by decide)) rfl (pa_cons (pe_h (has_without_minus C) (hr.mono (by decide)) rfl (pa_cons (pv 0) pa_nil)) pa_nil)) pa_nil))))), ?_⟩
  obtain ⟨a, l, rfl, ha, ⟨hd, hn⟩, tb, q⟩ := h
  walk_at "rx"
  refine ⟨a, l, rfl, ha, tb, fun H1 p1 u1 hp1 => ?_⟩
  walk_at "rx"
  refine rd_b1 hp1 ⟨hd, by omega⟩ u1.2 fun H2 u2 => ?_
  walk_at "rx"
  exact ⟨a, l, _, rfl, (u1.trans u2).lst ha, u2.2, fun H3 u3 => q H3 ((u1.trans u2).trans u3)⟩
theorem sc_magnitude_of : FnScope ["word", "size", "at", "decimals"] ["word"] (defScope (top 108)) := ⟨rfl, rfl, rfl, by decide +kernel, rfl, by decide +kernel, by decide +kernel⟩
theorem eqV_int {a b : Nat} : eqV (.int (a : Int)) (.int (b : Int)) = decide (a = b) := by
  show ((a : Int) == (b : Int)) = decide (a = b)
  by_cases h : a = b
  · subst h
    simp
  · rw [decide_eq_false h, beq_eq_false_iff_ne]
    omega
theorem flat_vn (l : List Nat) : (vn l).all flatV = true := by
  rw [List.all_eq_true]
  intro x hx
  obtain ⟨n, _, rfl⟩ := List.mem_map.mp hx
  rfl
theorem inV_vn (c : Nat) (l : List Nat) : inV (.int (c : Int)) (vn l) = decide (c ∈ l) := by
  unfold inV vn
  rw [List.any_map]
  induction l with
  | nil => rfl
  | cons b l ih =>
    rw [List.any_cons, ih]
    show (eqV (.int (b : Int)) (.int (c : Int)) || _) = _
    rw [eqV_int]
    by_cases h : b = c
    · subst h
      simp
    · rw [decide_eq_false h, Bool.false_or]
      exact decide_eq_decide.mpr ⟨fun z => List.mem_cons_of_mem _ z, fun z => by
        rcases List.mem_cons.mp z with e | e
        · exact absurd e.symm h
        · exact e⟩
theorem mag_dec {a b : List Nat} (h1 : 1 ≤ b.length) (h2 : b.length ≤ 3) : Dz01.natOf (a ++ (b ++ [48, 48]).take 3) = 1000 * Dz01.natOf a + Dz01.natOf b * 10 ^ (3 - b.length) := by
  have s3 : ∀ x y z : Nat, Dz01.natOf (a ++ [x, y, z]) = 10 * (10 * (10 * Dz01.natOf a + (x - 48)) + (y - 48)) + (z - 48) := fun x y z => by
    unfold Dz01.natOf
    rw [List.foldl_append]
    rfl
  match b, h1, h2 with
  | [x], _, _ =>
    show Dz01.natOf (a ++ [x, 48, 48]) = 1000 * Dz01.natOf a + (10 * 0 + (x - 48)) * 100
    rw [s3]
    omega
  | [x, y], _, _ =>
    show Dz01.natOf (a ++ [x, y, 48]) = 1000 * Dz01.natOf a + (10 * (10 * 0 + (x - 48)) + (y - 48)) * 10
    rw [s3]
    omega
  | [x, y, z], _, _ =>
    show Dz01.natOf (a ++ [x, y, z]) = 1000 * Dz01.natOf a + (10 * (10 * (10 * 0 + (x - 48)) + (y - 48)) + (z - 48)) * 1
    rw [s3]
    omega
theorem has_magnitude_of (C : Ctx P w K mg base Ts Ct Cs) : Has P w K mg base "magnitude_of" 2 ["word"] (spB1 Ts (fun l => MagForm (noM l)) fun l => .int (sgn l (magV (noM l) : Int))) := by
  refine has_of C.t.d_magnitude_of sc_magnitude_of (fun vs H Q E h => by obtain ⟨a, _, rfl, _⟩ := h; rfl) (fun _ _ _ _ _ _ us hl => match us, hl with | [_], _ => rfl) fun f cdv A outer s H vs Q E hr h => ⟨_, (pss_cons (ps_set (i := 1) sc_magnitude_of.nd rfl (Or.inl rfl) (pe_h (has_without_minus C) (hr.mono (by decide)) rfl (pa_cons (pv 0) pa_nil))) (pss_cons (ps_if (pt_cmpR op_notIn_seq (pe_gi C.t.POINT) (pv 1) (nomark2 rfl)) (pss_one (ps_ret (pe_h (has_with_sign_of C) (hr.mono (by decide)) rfl (pa_cons (pv 0) (pa_cons (pe_op op_mulW (pe_h (has_number_of C) (hr.mono (by decide)) rfl (pa_cons (pv 1) pa_nil)) pe_int) pa_nil))))) pss_nil) (pss_cons (ps_set (i := 2) sc_magnitude_of.nd rfl (Or.inl rfl) (pe_bm PySem.F.plainAttrs_list PySem.F.slot_list_index PySem.F.type_list_index mt_index (pv 1) (pa_cons (pe_gi C.t.POINT) pa_nil))) (pss_cons (ps_set (i := 3) sc_magnitude_of.nd rfl (Or.inl rfl) (pe_slice sl_list (pe_op op_cat (pe_slice sl_list (pv 1) (po_some (pe_op op_add (pv 2) pe_int)) po_none) (pe_lst (pa_cons (pe_gi C.t.ZERO) (pa_cons (pe_gi C.t.ZERO) pa_nil)))) po_none (po_some pe_int))) (pss_one (ps_ret (pe_h (has_with_sign_of C) (hr.mono (by decide)) rfl (pa_cons (pv 0) (pa_cons (pe_h (has_number_of C) (hr.mono (by decide)) rfl (pa_cons (pe_op op_cat (pe_slice sl_list (pv 1) po_none (po_some (pv 2))) (pv 3)) pa_nil)) pa_nil))))))))), ?_⟩
  obtain ⟨a, l, rfl, ha, hf, tb, q⟩ := h
  have q : ∀ H', Up Ts H H' → Q (.int (sgn l (magV (noM l) : Int))) H' := q
  generalize hu : noM l = u at *
  walk_at "rx"
  refine ⟨a, l, rfl, ha, tb, fun H1 p1 u1 hp1 => ?_⟩
  rw [hu] at hp1
  walk_at "rx"
  refine ⟨p1, vn u, rfl, .inl (SqL.of hp1), rfl, flat_vn u, ?_⟩
  have ei : inV (V.int 46) (vn u) = decide (46 ∈ u) := inV_vn 46 u
  rw [ei]
  walk_at "rx"
  obtain ⟨x, y, dx, dy, x1, x2, ⟨rfl, rfl⟩ | ⟨rfl, y1, y2⟩⟩ := hf
  · refine rd_nd (fun c => ?_) (fun c => ?_)
    · have nb := natOf_bd x2 dx
      walk_at "rx"
      refine rd_b1 hp1 ⟨dx, by omega⟩ u1.2 fun H2 u2 => ?_
      walk_at "rx"
      have em : ((magV u : Nat) : Int) = (Dz01.natOf u : Int) * 1000 := by
        unfold magV
        rw [split_one (c := 46) (dx.ne (by decide))]
        dsimp only
        omega
      rw [em] at q
      exact ⟨a, l, _, rfl, (u1.trans u2).lst ha, u2.2, fun H3 u3 => q H3 ((u1.trans u2).trans u3)⟩
    · exact absurd rfl (dx.ne (c := 46) (by decide) 46 c)
  · refine rd_nd (fun c => absurd (List.mem_append.mpr (.inr (List.mem_cons_self ..))) c) (fun c => ?_)
    have em : magV (x ++ 46 :: y) = 1000 * Dz01.natOf x + Dz01.natOf y * 10 ^ (3 - y.length) := by
      unfold magV
      rw [split_app (dx.ne (by decide)), split_one (dy.ne (by decide))]
    rw [em] at q
    have em2 := mag_dec (a := x) y1 y2
    rw [← em2] at q
    walk_at "rx"
    refine ⟨.inl ⟨rfl, _, SqL.of hp1⟩, ?_⟩
    walk_at "rx"
    have gx : (x ++ 46 :: y)[x.length]? = some 46 := by
      rw [List.getElem?_append_right (Nat.le_refl _), Nat.sub_self]
      rfl
    refine ⟨p1, vn (x ++ 46 :: y), .int 46, x.length, .int ((46 : Nat) : Int), rfl, rfl, SqL.of hp1, rfl, flat_vn _, vn_get gx, rfl, fun m z hm hz => ?_, ?_⟩
    · have e3 : (x ++ 46 :: y)[m]? = some x[m] := by
        rw [List.getElem?_append_left hm]
        exact List.getElem?_eq_getElem hm
      rw [vn_get e3] at hz
      cases hz
      have : eqV (.int ((x[m] : Nat) : Int)) (.int ((46 : Nat) : Int)) = decide (x[m] = 46) := eqV_int
      show eqV (.int ((x[m] : Nat) : Int)) (.int ((46 : Nat) : Int)) = false
      rw [this]
      exact decide_eq_false (dx.ne (by decide) _ (List.getElem_mem hm))
    walk_at "rx"
    refine ⟨p1, vn (x ++ 46 :: y), rfl, SqL.of hp1, fun p2 hp2 => ?_⟩
    have e1 : cutV (vn (x ++ 46 :: y)) (some ((x.length : Nat) + 1 : Int)) none = vn y := by
      have k := cutV_i0 (l := x ++ 46 :: y) (i := x.length + 1)
      have e0 : (x ++ 46 :: y).drop (x.length + 1) = y := by
        have : x ++ 46 :: y = (x ++ [46]) ++ y := by simp
        rw [this]
        exact List.drop_left' (by rw [List.length_append]; rfl)
      rw [e0] at k
      exact k
    rw [e1]
    have U2 := u1.new2 (o := .lst (vn y)) hp2
    walk_at "rx"
    refine ⟨by show 2 ≤ sizeLine; decide, fun p3 hp3 => ?_⟩
    have U3 := U2.new2 (o := .lst [.int 48, .int 48]) hp3
    have n23 : p2 ≠ p3 := fun z => by
      rw [← z, upd_same] at hp3
      cases hp3
    refine ⟨p2, p3, vn y, vn [48, 48], rfl, rfl, by rw [upd_ne n23, upd_same], upd_same, ?_, fun p4 hp4 => ?_⟩
    · rw [vn_len, vn_len]
      exact Nat.le_trans (show y.length + 2 ≤ 5 by omega) (by decide)
    rw [← vn_app]
    have U4 := U3.new2 (o := .lst (vn (y ++ [48, 48]))) hp4
    walk_at "rx"
    refine ⟨p4, vn (y ++ [48, 48]), rfl, SqL.of upd_same, fun p5 hp5 => ?_⟩
    have e5 : cutV (vn (y ++ [48, 48])) none (some 3) = vn ((y ++ [48, 48]).take 3) := cutV_0j (j := 3)
    rw [e5]
    have U5 := U4.new2 (o := .lst (vn ((y ++ [48, 48]).take 3))) hp5
    walk_at "rx"
    have hp1' : _ = some (HO.lst (vn (x ++ 46 :: y))) := (Up.trans (Up.new (o := .lst (vn y)) u1.2 hp2) (Up.trans (Up.new (o := .lst [.int 48, .int 48]) U2.2 hp3) (Up.trans (Up.new (o := .lst (vn (y ++ [48, 48]))) U3.2 hp4) (Up.new (o := .lst (vn ((y ++ [48, 48]).take 3))) U4.2 hp5)))).lst hp1
    refine ⟨p1, vn (x ++ 46 :: y), rfl, SqL.of hp1', fun p6 hp6 => ?_⟩
    have e6 : cutV (vn (x ++ 46 :: y)) none (some (x.length : Nat)) = vn x := by
      have k := cutV_0j (l := x ++ 46 :: y) (j := x.length)
      rw [List.take_left] at k
      exact k
    rw [e6]
    have U6 := U5.new2 (o := .lst (vn x)) hp6
    walk_at "rx"
    have n56 : p5 ≠ p6 := fun z => by
      rw [← z, upd_same] at hp6
      cases hp6
    refine ⟨p6, p5, vn x, vn ((y ++ [48, 48]).take 3), rfl, rfl, upd_same, by rw [upd_ne n56, upd_same], ?_, fun p7 hp7 => ?_⟩
    · rw [vn_len, vn_len]
      exact Nat.le_trans (show x.length + _ ≤ 2 + 3 from Nat.add_le_add x2 (List.length_take_le 3 _)) (by decide)
    rw [← vn_app]
    have U7 := U6.new2 (o := .lst (vn (x ++ (y ++ [48, 48]).take 3))) hp7
    walk_at "rx"
    have dt : DG (x ++ (y ++ [48, 48]).take 3) := fun b hb => by
      rcases List.mem_append.mp hb with z | z
      · exact dx b z
      · rcases List.mem_append.mp (List.mem_of_mem_take z) with z | z
        · exact dy b z
        · have : b = 48 := by simpa using z
          rw [this]
          decide
    have lt : (x ++ (y ++ [48, 48]).take 3).length ≤ 50 := by
      rw [List.length_append]
      exact Nat.le_trans (Nat.add_le_add x2 (List.length_take_le 3 _)) (by decide)
    refine rd_b1 upd_same ⟨dt, lt⟩ U7.2 fun H8 u8 => ?_
    walk_at "rx"
    exact ⟨a, l, _, rfl, (U7.trans u8).lst ha, u8.2, fun H9 u9 => q H9 ((U7.trans u8).trans u9)⟩
end
section
variable {P : Program} {w : World} {K : PySem.W.Frag} {mg : Str → Option Value} {base : Heap} {Ts : List (Addr × Str)} {Ct Cs : Addr}
theorem sc_is_name : FnScope ["word", "byte"] ["word"] (defScope (top 102)) := ⟨rfl, rfl, rfl, by decide +kernel, rfl, by decide +kernel, by decide +kernel⟩
theorem has_is_name (C : Ctx P w K mg base Ts Ct Cs) : Has P w K mg base "is_name" 2 ["word"] (spB1 Ts (fun _ => True) fun l => .bl (Dz01.isName l)) := by
  refine has_of C.t.d_is_name sc_is_name (fun vs H Q E h => by obtain ⟨a, _, rfl, _⟩ := h; rfl) (fun _ _ _ _ _ _ us hl => match us, hl with | [_], _ => rfl) fun f cdv A outer s H vs Q E hr h => ⟨_, (pss_cons (ps_if (PW.pt (pw_or (pt_not (pt_chain op_le op_le pe_int (pe_callB call_len_seq (by rfl) C.t.len_ (by decide +kernel) (pa_cons (pv 0) pa_nil)) (pe_gi C.t.LONGEST_NAME))) (pw_or1 (pt_not (pt_val (pe_h (has_is_small_letter C) (hr.mono (by decide)) rfl (pa_cons (pe_ix ix_list (pv 0) pe_int (fun _ _ => rfl)) pa_nil))))))) (pss_one (ps_ret pe_bl)) pss_nil) (pss_one (ps_ret (pe_callB (cr_all rfl) (by rfl) C.t.all_ (by decide +kernel) (pa_cons (pe_lc (own := [("byte", 1)]) rfl sc_is_name.nd (pi_list (pv 0)) (blkOk_by (N := ["word", "byte"]) (sc := defScope (top 102)) (by decide +kernel)) (fun _ _ _ _ _ => (pg_name (i := 1) sc_is_name.nd rfl (Or.inl rfl) )) (fun _ _ _ _ _ => pts_nil) (fun _ _ _ _ _ => (pe_or (pe_h (has_is_small_letter C) (hr.mono (by decide)) rfl (pa_cons (pv 1) pa_nil)) (pe_or (pe_h (has_is_digit C) (hr.mono (by decide)) rfl (pa_cons (pv 1) pa_nil)) (pe_one (pe_cmpR op_eq (pv 1) (pe_gi C.t.MINUS) (nomark _))))))) pa_nil))))), ?_⟩
  obtain ⟨a, l, rfl, ha, _, tb, q⟩ := h
  have q : ∀ H', Up Ts H H' → Q (.bl (Dz01.isName l)) H' := q
  rw [name_read] at q
  have e1 : decide ((1 : Int) ≤ ((vn l).length : Nat)) = decide (1 ≤ l.length) := decide_eq_decide.mpr (by rw [vn_len]; omega)
  have e2 : decide (((vn l).length : Int) ≤ 12) = decide (l.length ≤ 12) := decide_eq_decide.mpr (by rw [vn_len]; omega)
  walk_at "rx"
  refine rd_oT ?_
  walk_at "rx"
  refine rd_chain2 (p := fun i j => decide (i ≤ j)) (p' := fun i j => decide (i ≤ j)) (a := 1) (b := ((vn l).length : Nat)) (c := 12) (fun Q1 q1 => ?_) (fun Q1 q1 => ?_) (fun Q1 q1 => ?_) ?_
  · walk_at "rx"
    exact q1
  · walk_at "rx"
    exact ⟨a, vn l, rfl, .inl (SqL.of ha), q1⟩
  · walk_at "rx"
    exact q1
  rw [e1, e2]
  walk_at "rx"
  refine rd_nb (fun c => ?_) (fun c => ?_)
  · rw [c] at q
    walk_at "rx"
    exact q H (Up.refl tb)
  rw [c] at q
  have hne : 0 < l.length := by
    rw [Bool.and_eq_true] at c
    have := of_decide_eq_true c.1
    omega
  have h12 : l.length ≤ 12 := by
    rw [Bool.and_eq_true] at c
    exact of_decide_eq_true c.2
  have hb : l[0]? = some l[0] := List.getElem?_eq_getElem hne
  have hg : l.getD 0 0 = l[0] := by
    rw [List.getD_eq_getElem?_getD, hb]
    rfl
  rw [hg] at q
  generalize l[0] = b at hb q
  walk_at "rx"
  refine ⟨a, vn l, 0, _, rfl, rfl, SqL.of ha, at_of (j := 0) rfl (vn_get hb), ?_⟩
  walk_at "rx"
  refine rd_n1 ?_
  walk_at "rx"
  refine rd_nb (fun c2 => ?_) (fun c2 => ?_)
  · rw [c2] at q
    walk_at "rx"
    exact q H (Up.refl tb)
  rw [c2] at q
  walk_at "rx"
  refine ⟨⟨vn l, SqL.of ha⟩, fun D hD => ?_⟩
  have nD := Nw.of hD
  refine lc_list (xs := vn l) (fun i H' => Up Ts H H' ∧ H' D = some (.lst (((l.take i).map fun b => smallB b || Dz01.isDigit b || decide (b = 45)).map V.bl))) ⟨Up.new tb hD, upd_same⟩ ?_ ?_ ?_
  · rintro i H' hi ⟨u, hD'⟩
    exact SqL.of (u.lst ha)
  · rintro i y H' hy ⟨u, hD'⟩
    have hi : i < l.length := by
      have := get_lt hy
      rw [vn_len] at this
      exact this
    have hb : l[i]? = some l[i] := List.getElem?_eq_getElem hi
    generalize l[i] = b at hb
    rw [vn_get hb] at hy
    cases hy
    have e3 : decide ((b : Int) = 45) = decide (b = 45) := decide_eq_decide.mpr (by omega)
    walk_at "rx"
    refine ⟨rfl, ?_⟩
    walk_at "rx"
    refine rd_orV2 (b1 := smallB b) (b2 := Dz01.isDigit b || decide (b = 45)) (fun Q1 q1 => ?_) (fun Q1 q1 => ?_) ?_
    · walk_at "rx"
      exact rd_n1 q1
    · refine rd_orV2 (b1 := Dz01.isDigit b) (b2 := decide (b = 45)) (fun Q1 q1 => ?_) (fun Q1 q1 => ?_) q1
      · walk_at "rx"
        exact rd_n1 q1
      · walk_at "rx"
        rw [e3]
        exact q1
    refine ⟨_, hD', ?_, u.mut nD hD', ?_⟩
    · rw [List.length_map, List.length_map]
      exact Nat.lt_of_le_of_lt (Nat.le_trans (List.length_take_le' ..) h12) (show 12 < sizeLine by decide)
    · rw [upd_same, take_snoc hb, List.map_append, List.map_append, ← Bool.or_assoc]
      rfl
  · rintro H' ⟨u, hD'⟩
    rw [vn_len, List.take_length] at hD'
    walk_at "rx"
    refine ⟨D, _, rfl, SqL.of hD', ?_⟩
    have e4 : (List.map (fun b => smallB b || Dz01.isDigit b || decide (b = 45)) l).any id = (List.map (fun b => smallB b || Dz01.isDigit b || decide (b = 45)) l).any id := rfl
    rw [List.all_map]
    exact q H' u
theorem sc_is_allowed : FnScope ["text", "byte"] ["text"] (defScope (top 116)) := ⟨rfl, rfl, rfl, by decide +kernel, rfl, by decide +kernel, by decide +kernel⟩
theorem has_is_allowed (C : Ctx P w K mg base Ts Ct Cs) : Has P w K mg base "is_allowed" 1 ["text"] (spB1 Ts (fun _ => True) fun l => .bl (Dz01.textOkay 6000 l)) := by
  refine has_of C.t.d_is_allowed sc_is_allowed (fun vs H Q E h => by obtain ⟨a, _, rfl, _⟩ := h; rfl) (fun _ _ _ _ _ _ us hl => match us, hl with | [_], _ => rfl) fun f cdv A outer s H vs Q E hr h => ⟨_, (pss_cons (ps_if (pt_cmpR op_gt (pe_callB call_len_seq (by rfl) C.t.len_ (by decide +kernel) (pa_cons (pv 0) pa_nil)) (pe_gi C.t.LONGEST_TEXT) (nomark _)) (pss_one (ps_ret pe_bl)) pss_nil) (pss_one (ps_ret (pe_callB (cr_all rfl) (by rfl) C.t.all_ (by decide +kernel) (pa_cons (pe_lc (own := [("byte", 1)]) rfl sc_is_allowed.nd (pi_list (pv 0)) (blkOk_by (N := ["text", "byte"]) (sc := defScope (top 116)) (by decide +kernel)) (fun _ _ _ _ _ => (pg_name (i := 1) sc_is_allowed.nd rfl (Or.inl rfl) )) (fun _ _ _ _ _ => pts_nil) (fun _ _ _ _ _ => (pe_or (pe_cmpR op_eq (pv 1) (pe_gi C.t.LINE_FEED) (nomark _)) (pe_one (pe_chain op_le op_le (pe_gi C.t.SPACE) (pv 1) (pe_gi C.t.LAST_BYTE)))))) pa_nil))))), ?_⟩
  obtain ⟨a, l, rfl, ha, _, tb, q⟩ := h
  have q : ∀ H', Up Ts H H' → Q (.bl (decide (l.length ≤ 6000) && l.all fun b => b == 10 || (decide (32 ≤ b) && decide (b ≤ 126)))) H' := q
  walk_at "rx"
  refine ⟨a, vn l, rfl, .inl (SqL.of ha), ?_⟩
  walk_at "rx"
  refine rd_d (fun c => ?_) (fun c => ?_)
  · rw [vn_len] at c
    rw [decide_eq_false (show ¬ l.length ≤ 6000 by omega)] at q
    walk_at "rx"
    exact q H (Up.refl tb)
  rw [vn_len] at c
  have hl : l.length ≤ 6000 := by omega
  rw [decide_eq_true hl] at q
  walk_at "rx"
  refine ⟨⟨vn l, SqL.of ha⟩, fun D hD => ?_⟩
  have nD := Nw.of hD
  refine lc_list (xs := vn l) (fun i H' => Up Ts H H' ∧ H' D = some (.lst (((l.take i).map fun b => b == 10 || (decide (32 ≤ b) && decide (b ≤ 126))).map V.bl))) ⟨Up.new tb hD, upd_same⟩ ?_ ?_ ?_
  · rintro i H' hi ⟨u, hD'⟩
    exact SqL.of (u.lst ha)
  · rintro i y H' hy ⟨u, hD'⟩
    have hi : i < l.length := by
      have := get_lt hy
      rw [vn_len] at this
      exact this
    have hb : l[i]? = some l[i] := List.getElem?_eq_getElem hi
    generalize l[i] = b at hb
    rw [vn_get hb] at hy
    cases hy
    walk_at "rx"
    refine ⟨rfl, ?_⟩
    walk_at "rx"
    have ee : (b == 10 || (decide (32 ≤ b) && decide (b ≤ 126))) = (decide ((b : Int) = 10) || (decide (32 ≤ (b : Int)) && decide ((b : Int) ≤ 126))) := by
      congr 1
      · by_cases z : b = 10
        · subst z
          rfl
        · rw [decide_eq_false (by omega), beq_eq_false_iff_ne]
          exact z
      · congr 1
        · exact decide_eq_decide.mpr (by omega)
        · exact decide_eq_decide.mpr (by omega)
    refine rd_orV2 (b1 := decide ((b : Int) = 10)) (b2 := decide (32 ≤ (b : Int)) && decide ((b : Int) ≤ 126)) (fun Q1 q1 => ?_) (fun Q1 q1 => ?_) ?_
    · walk_at "rx"
      exact q1
    · walk_at "rz"
      exact q1
    refine ⟨_, hD', ?_, u.mut nD hD', ?_⟩
    · rw [List.length_map, List.length_map]
      exact Nat.lt_of_le_of_lt (Nat.le_trans (List.length_take_le' ..) hl) (show 6000 < sizeLine by decide)
    · rw [upd_same, take_snoc hb, List.map_append, List.map_append, ← ee]
      rfl
  · rintro H' ⟨u, hD'⟩
    rw [vn_len, List.take_length] at hD'
    walk_at "rx"
    refine ⟨D, _, rfl, SqL.of hD', ?_⟩
    rw [List.all_map]
    exact q H' u
/-! ### lines and words -/
def WordsL (H : Hp) (ps : List Addr) (ws : List (List Nat)) : Prop := ps.length = ws.length ∧ ∀ (i : Nat) (x : List Nat), ws[i]? = some x → ∃ a, ps[i]? = some a ∧ H a = some (.lst (vn x))
theorem WordsL.up {H H1 : Hp} {ps : List Addr} {ws : List (List Nat)} (h : WordsL H ps ws) (u : Up Ts H H1) : WordsL H1 ps ws := ⟨h.1, fun i x e => by
  obtain ⟨a, e1, e2⟩ := h.2 i x e
  exact ⟨a, e1, u.lst e2⟩⟩
theorem WordsL.put {H : Hp} {ps : List Addr} {ws : List (List Nat)} {p : Addr} {o : HO} (h : WordsL H ps ws) (n : ∀ x ∈ ps, x ≠ p) : WordsL (upd H p o) ps ws := ⟨h.1, fun i x e => by
  obtain ⟨a, e1, e2⟩ := h.2 i x e
  exact ⟨a, e1, by rw [upd_ne (n a (List.mem_of_getElem? e1))]; exact e2⟩⟩
theorem WordsL.nil (H : Hp) : WordsL H [] [] := ⟨rfl, fun i x e => by cases e⟩
theorem WordsL.snoc {H : Hp} {ps : List Addr} {ws : List (List Nat)} {a : Addr} {t : List Nat} (h : WordsL H ps ws) (k : H a = some (.lst (vn t))) : WordsL H (ps ++ [a]) (ws ++ [t]) := by
  refine ⟨by rw [List.length_append, List.length_append, h.1]; rfl, fun i x e => ?_⟩
  by_cases c : i < ws.length
  · rw [List.getElem?_append_left c] at e
    obtain ⟨b, e1, e2⟩ := h.2 i x e
    exact ⟨b, by rw [List.getElem?_append_left (by rw [h.1]; exact c)]; exact e1, e2⟩
  · rw [List.getElem?_append_right (by omega)] at e
    have e0 : i - ws.length = 0 := by
      by_cases z : i - ws.length = 0
      · exact z
      · rw [List.getElem?_eq_none (by show 1 ≤ _; omega)] at e
        cases e
    rw [e0] at e
    have e' : t = x := Option.some.inj e
    subst e'
    refine ⟨a, ?_, k⟩
    rw [List.getElem?_append_right (by rw [h.1]; omega), h.1, e0]
    rfl
theorem split_count (c : Nat) : ∀ l : List Nat, (Dz01.splitAt c l).length ≤ l.length + 1 ∧ ∀ x ∈ Dz01.splitAt c l, x.length ≤ l.length
  | [] => ⟨Nat.le_refl _, fun x hx => by rw [List.mem_singleton.mp hx]; exact Nat.le_refl _⟩
  | b :: l => by
    obtain ⟨h1, h2⟩ := split_count c l
    cases e : Dz01.splitAt c l with
    | nil => exact absurd e (split_ne c l)
    | cons p ps =>
      rw [e] at h1 h2
      have hp := h2 p (List.mem_cons_self ..)
      by_cases q : b = c
      · subst q
        rw [split_sep, e]
        refine ⟨by rw [List.length_cons] at h1; rw [List.length_cons, List.length_cons, List.length_cons]; omega, fun x hx => ?_⟩
        rcases List.mem_cons.mp hx with z | z
        · rw [z]
          exact Nat.zero_le _
        · have := h2 x z
          rw [List.length_cons]
          omega
      · rw [split_oth q e]
        refine ⟨by rw [List.length_cons] at h1; rw [List.length_cons, List.length_cons]; omega, fun x hx => ?_⟩
        rcases List.mem_cons.mp hx with z | z
        · rw [z, List.length_cons, List.length_cons]
          omega
        · have := h2 x (List.mem_cons_of_mem _ z)
          rw [List.length_cons]
          omega
theorem sc_parted : FnScope ["signs", "separator", "parts", "part", "byte"] ["signs", "separator"] (defScope (top 117)) := ⟨rfl, rfl, rfl, by decide +kernel, rfl, by decide +kernel, by decide +kernel⟩
def spPart (Ts : List (Addr × Str)) : Sp := fun vs H Q _ => ∃ (a : Addr) (l : List Nat) (c : Nat), vs = [.ref a, .int (c : Int)] ∧ H a = some (.lst (vn l)) ∧ l.length ≤ 6100 ∧ Tabs Ts H ∧ ∀ H' p ps, Up Ts H H' → Nw H p → H' p = some (.lst (refs ps)) → WordsL H' ps (Dz01.splitAt c l) → (∀ x ∈ ps, Nw H x) → Q (.ref p) H'
theorem has_parted (C : Ctx P w K mg base Ts Ct Cs) : Has P w K mg base "parted" 1 ["signs", "separator"] (spPart Ts) := by
  refine has_of C.t.d_parted sc_parted (fun vs H Q E h => by obtain ⟨a, _, b, rfl, _⟩ := h; rfl) (fun _ _ _ _ _ _ us hl => match us, hl with | [_, _], _ => rfl) fun f cdv A outer s H vs Q E hr h => ⟨_, (pss_cons (ps_set (i := 2) sc_parted.nd rfl (Or.inl rfl) (pe_lst pa_nil)) (pss_cons (ps_set (i := 3) sc_parted.nd rfl (Or.inl rfl) (pe_lst pa_nil)) (pss_cons (ps_for PassesOwn.never rfl (pi_list (pv 0)) (pg_name (i := 4) sc_parted.nd rfl (Or.inl rfl)) (pss_one (ps_if (pt_cmpR op_eq (pv 4) (pv 1) (nomark _)) (pss_cons (ps_expr (pe_bm PySem.F.plainAttrs_list PySem.F.slot_list_append PySem.F.type_list_append mt_append (pv 2) (pa_cons (pv 3) pa_nil))) (pss_one (ps_set (i := 3) sc_parted.nd rfl (Or.inl rfl) (pe_lst pa_nil)))) (pss_one (ps_expr (pe_bm PySem.F.plainAttrs_list PySem.F.slot_list_append PySem.F.type_list_append mt_append (pv 3) (pa_cons (pv 4) pa_nil))))))) (pss_cons (ps_expr (pe_bm PySem.F.plainAttrs_list PySem.F.slot_list_append PySem.F.type_list_append mt_append (pv 2) (pa_cons (pv 3) pa_nil))) (pss_one (ps_ret (pv 2))))))), ?_⟩
  obtain ⟨a, l, c, rfl, ha, hn, tb, q⟩ := h
  walk_at "rx"
  refine ⟨by show 0 ≤ sizeLine; decide, fun D hD => ?_⟩
  have nD := Nw.of hD
  have uD := Up.new (o := .lst []) tb hD
  walk_at "rx"
  refine ⟨by show 0 ≤ sizeLine; decide, fun P0 hP0 => ?_⟩
  walk_at "rx"
  refine rd_for ?_
  walk_at "rx"
  have nP0 : P0 ≠ D := fun z => by
    rw [z, upd_same] at hP0
    cases hP0
  have U0 := uD.new2 (o := .lst []) hP0
  refine ⟨⟨vn l, SqL.of (U0.lst ha)⟩, for_list (xs := vn l) (fun i σ H' => ∃ (P : Addr) (v4 : Option V) (ps : List Addr) (done : List (List Nat)) (cur : List Nat), σ = [some (.ref a), some (.int (c : Int)), some (.ref D), some (.ref P), v4] ∧ Up Ts H H' ∧ H' D = some (.lst (refs ps)) ∧ H' P = some (.lst (vn cur)) ∧ WordsL H' ps done ∧ (∀ x ∈ ps, x ≠ P ∧ x ≠ D) ∧ P ≠ D ∧ Nw H P ∧ Dz01.splitAt c (l.take i) = done ++ [cur] ∧ ∀ x ∈ ps, Nw H x)
    ⟨P0, none, [], [], [], rfl, U0, by rw [upd_ne nP0.symm, upd_same]; rfl, upd_same, WordsL.nil _, fun x hx => (by cases hx), nP0, Nw.back uD (Nw.of hP0), rfl, fun x hx => (by cases hx)⟩ ?_ ?_ ?_⟩
  · rintro i σ H' hi ⟨P, v4, ps, done, cur, rfl, u, _⟩
    exact SqL.of (u.lst ha)
  · rintro i y σ H' hy ⟨P, v4, ps, done, cur, rfl, u, hD', hP', W, hne, hPD, nP, es, nw⟩
    have hi : i < l.length := by
      have := get_lt hy
      rw [vn_len] at this
      exact this
    have hb : l[i]? = some l[i] := List.getElem?_eq_getElem hi
    generalize l[i] = b at hb
    rw [vn_get hb] at hy
    cases hy
    have sc := split_snoc c b _ _ _ es
    rw [← take_snoc hb] at sc
    have cn := split_count c (l.take i)
    rw [es] at cn
    have tl : (l.take i).length ≤ 6100 := Nat.le_trans (List.length_take_le' ..) hn
    have dn : done.length ≤ 6100 := by
      have := cn.1
      rw [List.length_append, List.length_singleton] at this
      omega
    have cl : cur.length ≤ 6100 := Nat.le_trans (cn.2 cur (List.mem_append.mpr (.inr (List.mem_singleton.mpr rfl)))) tl
    walk_at "rx"
    refine rd_d (fun h => ?_) (fun h => ?_)
    · rw [if_pos (by omega)] at sc
      walk_at "rx"
      refine ⟨.inl ⟨rfl, _, SqL.of hD'⟩, ?_⟩
      walk_at "rx"
      refine ⟨D, refs ps, .ref P, rfl, rfl, hD', Nat.lt_of_le_of_lt (by rw [refs_len, W.1]; exact dn) (show 6100 < sizeLine by decide), ?_⟩
      have u1 := u.mut (ys := refs ps ++ [.ref P]) nD hD'
      walk_at "rx"
      refine ⟨by show 0 ≤ sizeLine; decide, fun P2 hP2 => ?_⟩
      have nP2 : ∀ x o, upd H' D (.lst (refs ps ++ [.ref P])) x = some o → x ≠ P2 := fun x o h z => by
        rw [z, hP2] at h
        cases h
      have eP : upd H' D (.lst (refs ps ++ [.ref P])) P = some (.lst (vn cur)) := by
        rw [upd_ne hPD]
        exact hP'
      have W1 : WordsL (upd H' D (.lst (refs ps ++ [.ref P]))) (ps ++ [P]) (done ++ [cur]) := (W.put fun x hx => (hne x hx).2).snoc eP
      have hx2 : ∀ x ∈ ps ++ [P], x ≠ P2 ∧ x ≠ D := fun x hx => by
        obtain ⟨i, e⟩ := List.mem_iff_getElem?.mp hx
        have li : i < (done ++ [cur]).length := by
          rw [← W1.1]
          exact get_lt e
        obtain ⟨a', e1, e2⟩ := W1.2 i _ (List.getElem?_eq_getElem li)
        rw [e] at e1
        cases e1
        refine ⟨nP2 _ _ e2, ?_⟩
        rcases List.mem_append.mp hx with z | z
        · exact (hne x z).2
        · rw [List.mem_singleton.mp z]
          exact hPD
      have nw2 : ∀ x ∈ ps ++ [P], Nw H x := fun x hx => by
        rcases List.mem_append.mp hx with z | z
        · exact nw x z
        · rw [List.mem_singleton.mp z]
          exact nP
      refine ⟨P2, _, ps ++ [P], done ++ [cur], [], rfl, u1.new2 hP2, ?_, upd_same, W1.put fun x hx => (hx2 x hx).1, hx2, fun z => (by rw [z, upd_same] at hP2; cases hP2), Nw.back u1 (Nw.of hP2), sc, nw2⟩
      rw [upd_ne (nP2 D _ upd_same), upd_same, refs_snoc]
    · rw [if_neg (by omega)] at sc
      walk_at "rx"
      refine ⟨.inl ⟨rfl, _, SqL.of hP'⟩, ?_⟩
      walk_at "rx"
      refine ⟨P, vn cur, .int (b : Nat), rfl, rfl, hP', Nat.lt_of_le_of_lt (by rw [vn_len]; exact cl) (show 6100 < sizeLine by decide), ?_⟩
      refine ⟨P, _, ps, done, cur ++ [b], rfl, u.mut nP hP', by rw [upd_ne hPD.symm]; exact hD', by rw [upd_same, vn_app]; rfl, W.put fun x hx => (hne x hx).1, hne, hPD, nP, sc, nw⟩
  · rintro σ H' ⟨P, v4, ps, done, cur, rfl, u, hD', hP', W, hne, hPD, nP, es, nw⟩
    rw [vn_len, List.take_length] at es
    have cn := split_count c l
    rw [es] at cn
    have dn : done.length ≤ 6100 := by
      have := cn.1
      rw [List.length_append, List.length_singleton] at this
      omega
    walk_at "rx"
    refine ⟨.inl ⟨rfl, _, SqL.of hD'⟩, ?_⟩
    walk_at "rx"
    refine ⟨D, refs ps, .ref P, rfl, rfl, hD', Nat.lt_of_le_of_lt (by rw [refs_len, W.1]; exact dn) (show 6100 < sizeLine by decide), ?_⟩
    walk_at "rx"
    have eP : upd H' D (.lst (refs ps ++ [.ref P])) P = some (.lst (vn cur)) := by
      rw [upd_ne hPD]
      exact hP'
    exact q _ D (ps ++ [P]) (u.mut nD hD') nD (by rw [upd_same, refs_snoc]) (by rw [es]; exact (W.put fun x hx => (hne x hx).2).snoc eP) fun x hx => by
      rcases List.mem_append.mp hx with z | z
      · exact nw x z
      · rw [List.mem_singleton.mp z]
        exact nP
end
section
variable {P : Program} {w : World} {K : PySem.W.Frag} {mg : Str → Option Value} {base : Heap} {Ts : List (Addr × Str)} {Ct Cs : Addr}
theorem call_lenK {X : Cx} (h : X.K = K) : CallR X (.builtin "len") fun xs H Q => ∃ p ys, xs = [.ref p] ∧ (SqL K H p ys ∨ SqT K H p ys) ∧ Q (.int ys.length) H := by
  subst h
  exact call_len_seq
theorem sc_words_of : FnScope ["line", "word"] ["line"] (defScope (top 118)) := ⟨rfl, rfl, rfl, by decide +kernel, rfl, by decide +kernel, by decide +kernel⟩
def spWords (Ts : List (Addr × Str)) : Sp := fun vs H Q _ => ∃ (a : Addr) (l : List Nat), vs = [.ref a] ∧ H a = some (.lst (vn l)) ∧ l.length ≤ 6100 ∧ Tabs Ts H ∧ ∀ H' p ps, Up Ts H H' → Nw H p → H' p = some (.lst (refs ps)) → WordsL H' ps (Dz01.wordsOf l) → (∀ x ∈ ps, Nw H x) → Q (.ref p) H'
theorem filter_snoc {α : Type} {f : α → Bool} {l : List α} {i : Nat} {x : α} (h : l[i]? = some x) : (l.take (i + 1)).filter f = (l.take i).filter f ++ (if f x = true then [x] else []) := by
  rw [take_snoc h, List.filter_append]
  by_cases c : f x = true
  · rw [if_pos c, List.filter_cons_of_pos c]
    rfl
  · rw [if_neg c, List.filter_cons_of_neg c]
    rfl
theorem has_words_of (C : Ctx P w K mg base Ts Ct Cs) : Has P w K mg base "words_of" 2 ["line"] (spWords Ts) := by
  refine has_of C.t.d_words_of sc_words_of (fun vs H Q E h => by obtain ⟨a, _, rfl, _⟩ := h; rfl) (fun _ _ _ _ _ _ us hl => match us, hl with | [_], _ => rfl) fun f cdv A outer s H vs Q E hr h => ⟨_, (pss_one (ps_ret (pe_lc (own := [("word", 1)]) rfl sc_words_of.nd (pi_list (pe_h (has_parted C) (hr.mono (by decide)) rfl (pa_cons (pv 0) (pa_cons (pe_gi C.t.SPACE) pa_nil)))) (blkOk_by (N := ["line", "word"]) (sc := defScope (top 118)) (by decide +kernel)) (fun _ _ _ _ _ => (pg_name (i := 1) sc_words_of.nd rfl (Or.inl rfl) )) (fun _ _ _ _ _ => (pts_one (pt_cmpR op_gt (pe_callB (call_lenK (K := K) rfl) (by rfl) C.t.len_ (by decide +kernel) (pa_cons (pv 1) pa_nil)) pe_int (nomark _)))) (fun _ _ _ _ _ => (pv 1))))), ?_⟩
  obtain ⟨a, l, rfl, ha, hn, tb, q⟩ := h
  have cn := split_count 32 l
  walk_at "rx"
  refine ⟨a, l, 32, rfl, ha, hn, tb, fun H1 p1 ps u1 n1 hp1 W nw => ?_⟩
  walk_at "rx"
  refine ⟨⟨refs ps, SqL.of hp1⟩, fun D hD => ?_⟩
  have nD := Nw.of hD
  refine lc_list (xs := refs ps) (fun i H' => Up Ts H1 H' ∧ ∃ qs, H' D = some (.lst (refs qs)) ∧ WordsL H' qs (((Dz01.splitAt 32 l).take i).filter fun w => !w.isEmpty) ∧ (∀ x ∈ qs, x ≠ D) ∧ ∀ x ∈ qs, Nw H x) ⟨Up.new u1.2 hD, [], upd_same, WordsL.nil _, fun x hx => (by cases hx), fun x hx => (by cases hx)⟩ ?_ ?_ ?_
  · rintro i H' hi ⟨u, _⟩
    exact SqL.of (u.lst hp1)
  · rintro i y H' hy ⟨u, qs, hD', V, ne, nq⟩
    have hi : i < (Dz01.splitAt 32 l).length := by
      have := get_lt hy
      rw [refs_len, W.1] at this
      exact this
    have hx : (Dz01.splitAt 32 l)[i]? = some (Dz01.splitAt 32 l)[i] := List.getElem?_eq_getElem hi
    generalize (Dz01.splitAt 32 l)[i] = x at hx
    obtain ⟨b, hb, eb⟩ := W.2 i x hx
    rw [refs_get hb] at hy
    cases hy
    have fs := filter_snoc (f := fun w => !w.isEmpty) hx
    have ql : qs.length ≤ 6101 := by
      have h1 := V.1
      have h2 := List.length_filter_le (fun w : List Nat => !w.isEmpty) ((Dz01.splitAt 32 l).take i)
      have h3 := List.length_take_le' i (Dz01.splitAt 32 l)
      have h4 := cn.1
      omega
    walk_at "rx"
    refine ⟨rfl, ?_⟩
    walk_at "rx"
    refine ⟨b, vn x, rfl, .inl (SqL.of (u.lst eb)), ?_⟩
    walk_at "rx"
    refine rd_d (fun c => ?_) (fun c => ?_)
    · walk_at "rx"
      rw [vn_len] at c
      have e : (!x.isEmpty) = true := by
        cases x with
        | nil => simp at c
        | cons => rfl
      rw [fs, if_pos e]
      have nb : b ≠ D := fun z => (nD.ne eb) z.symm
      have n2 : ∀ x ∈ qs ++ [b], x ≠ D := fun x hx => by
        rcases List.mem_append.mp hx with z | z
        · exact ne x z
        · rw [List.mem_singleton.mp z]
          exact nb
      exact ⟨_, hD', Nat.lt_of_le_of_lt (by rw [refs_len]; exact ql) (show 6101 < sizeLine by decide), u.mut nD hD', qs ++ [b], by rw [upd_same, refs_snoc], (V.snoc (u.lst eb)).put n2, n2, fun x hx => by
        rcases List.mem_append.mp hx with z | z
        · exact nq x z
        · rw [List.mem_singleton.mp z]
          exact nw b (List.mem_of_getElem? hb)⟩
    · rw [vn_len] at c
      have e : ¬ (!x.isEmpty) = true := by
        cases x with
        | nil => simp
        | cons b l =>
          rw [List.length_cons] at c
          omega
      rw [fs, if_neg e, List.append_nil]
      exact ⟨u, qs, hD', V, ne, nq⟩
  · rintro H' ⟨u, qs, hD', V, ne, nq⟩
    rw [refs_len, W.1, List.take_length] at V
    exact q H' D qs (u1.trans u) (Nw.back u1 nD) hD' V nq
theorem words_ne (l : List Nat) : ∀ w ∈ Dz01.wordsOf l, w ≠ [] := fun w hw z => by
  have := (List.mem_filter.mp hw).2
  rw [z] at this
  cases this
theorem sc_is_ignored : FnScope ["words"] ["words"] (defScope (top 119)) := ⟨rfl, rfl, rfl, by decide +kernel, rfl, by decide +kernel, by decide +kernel⟩
def ign : List (List Nat) → Bool
  | [] => true
  | w :: _ => decide (w.head? = some 35)
def spIgn : Sp := fun vs H Q _ => ∃ (a : Addr) (ps : List Addr) (ws : List (List Nat)), vs = [.ref a] ∧ H a = some (.lst (refs ps)) ∧ WordsL H ps ws ∧ (∀ w ∈ ws, w ≠ []) ∧ Q (.bl (ign ws)) H
theorem has_is_ignored (C : Ctx P w K mg base Ts Ct Cs) : Has P w K mg base "is_ignored" 1 ["words"] spIgn := by
  refine has_of C.t.d_is_ignored sc_is_ignored (fun vs H Q E h => by obtain ⟨a, _, _, rfl, _⟩ := h; rfl) (fun _ _ _ _ _ _ us hl => match us, hl with | [_], _ => rfl) fun f cdv A outer s H vs Q E hr h => ⟨_, (pss_one (ps_ret (pe_or (pe_cmpR op_eq (pe_callB call_len_seq (by rfl) C.t.len_ (by decide +kernel) (pa_cons (pv 0) pa_nil)) pe_int (nomark _)) (pe_one (pe_cmpR op_eq (pe_ix ix_list (pe_ix ix_list (pv 0) pe_int (fun _ _ => rfl)) pe_int (fun _ _ => rfl)) (pe_gi C.t.NUMBER_SIGN) (nomark _)))))), ?_⟩
  obtain ⟨a, ps, ws, rfl, ha, W, hne, q⟩ := h
  walk_at "rx"
  refine rd_oV ?_
  walk_at "rx"
  refine ⟨a, refs ps, rfl, .inl (SqL.of ha), ?_⟩
  rw [refs_len, W.1]
  walk_at "rx"
  match ws, W, hne, q with
  | [], W, hne, q =>
    refine rd_d (fun c => ?_) (fun c => absurd rfl c)
    exact q
  | [] :: ws, W, hne, q => exact absurd rfl (hne [] (List.mem_cons_self ..))
  | (b :: x) :: ws, W, hne, q =>
    refine rd_d (fun c => ?_) (fun c => ?_)
    · rw [List.length_cons] at c
      omega
    obtain ⟨p, e1, e2⟩ := W.2 0 (b :: x) rfl
    walk_at "rx"
    refine ⟨a, refs ps, 0, _, rfl, rfl, SqL.of ha, at_of (j := 0) rfl (refs_get e1), ?_⟩
    walk_at "rx"
    refine ⟨p, vn (b :: x), 0, _, rfl, rfl, SqL.of e2, at_of (j := 0) rfl (vn_get (l := b :: x) (i := 0) rfl), ?_⟩
    walk_at "rx"
    have e : decide ((b : Int) = 35) = ign ((b :: x) :: ws) := by
      show _ = decide (some b = some 35)
      refine decide_eq_decide.mpr ⟨fun h => ?_, fun h => ?_⟩
      · have : b = 35 := by omega
        rw [this]
      · have := Option.some.inj h
        omega
    rw [e]
    exact q
theorem sc_index_of_name : FnScope ["stars", "name", "i", "star"] ["stars", "name"] (defScope (top 120)) := ⟨rfl, rfl, rfl, by decide +kernel, rfl, by decide +kernel, by decide +kernel⟩
def ixV (ss : List Dz01.Star) (nm : List Nat) : V := match ss.findIdx? fun x => x.name == nm with
  | none => .non
  | some i => .int (i : Nat)
def spIx (Ts : List (Addr × Str)) (Ct : Addr) : Sp := fun vs H Q _ => ∃ (a b : Addr) (as : List Addr) (ss : List Dz01.Star) (nm : List Nat), vs = [.ref a, .ref b] ∧ H a = some (.lst (refs as)) ∧ StarsL Ct H as ss ∧ H b = some (.lst (vn nm)) ∧ Tabs Ts H ∧ ∀ H', Up Ts H H' → Q (ixV ss nm) H'
theorem ixV_none {ss : List Dz01.Star} {nm : List Nat} (h : ∀ (i : Nat) (x : Dz01.Star), ss[i]? = some x → x.name ≠ nm) : ixV ss nm = .non := by
  have e : ss.findIdx? (fun x => x.name == nm) = none := by
    rw [List.findIdx?_eq_none_iff]
    intro x hx
    obtain ⟨i, e⟩ := List.mem_iff_getElem?.mp hx
    rw [beq_eq_false_iff_ne]
    exact h i x e
  unfold ixV
  rw [e]
theorem ixV_some {ss : List Dz01.Star} {nm : List Nat} {i : Nat} {x : Dz01.Star} (e : ss[i]? = some x) (hx : x.name = nm) (h : ∀ (j : Nat) (y : Dz01.Star), j < i → ss[j]? = some y → y.name ≠ nm) : ixV ss nm = .int (i : Nat) := by
  have e : ss.findIdx? (fun x => x.name == nm) = some i := by
    rw [List.findIdx?_eq_some_iff_getElem]
    have hi := get_lt e
    have ei : ss[i] = x := Option.some.inj ((List.getElem?_eq_getElem hi).symm.trans e)
    refine ⟨hi, ?_, fun j hj => ?_⟩
    · rw [ei, beq_iff_eq]
      exact hx
    · rw [beq_iff_eq]
      exact h j _ hj (List.getElem?_eq_getElem _)
  unfold ixV
  rw [e]
theorem has_index_of_name (C : Ctx P w K mg base Ts Ct Cs) : Has P w K mg base "index_of_name" 1 ["stars", "name"] (spIx Ts Ct) := by
  refine has_of C.t.d_index_of_name sc_index_of_name (fun vs H Q E h => by obtain ⟨a, b, _, _, _, rfl, _⟩ := h; rfl) (fun _ _ _ _ _ _ us hl => match us, hl with | [_, _], _ => rfl) fun f cdv A outer s H vs Q E hr h => ⟨_, (pss_cons (ps_for PassesOwn.never rfl (pi_enum (by rfl) C.t.enumerate_ (pa_cons (pv 0) pa_nil)) (pg_tup rfl (pgs_cons (pg_name (i := 2) sc_index_of_name.nd rfl (Or.inl rfl)) (pgs_cons (pg_name (i := 3) sc_index_of_name.nd rfl (Or.inl rfl)) pgs_nil))) (pss_one (ps_if (pt_cmpR (op_eqD hr.units) (pe_fld (pv 3) rfl) (pv 1) (nomark _)) (pss_one (ps_ret (pv 2))) pss_nil))) (pss_one (ps_ret pe_non))), ?_⟩
  obtain ⟨a, b, as, ss, nm, rfl, ha, hs, hb, tb, q⟩ := h
  walk_at "rx"
  refine rd_for ?_
  walk_at "rx"
  refine ⟨a, refs as, rfl, SqL.of ha, for_enum0 (xs := refs as) (fun i σ H' => ∃ v2 v3 : Option V, σ = [some (.ref a), some (.ref b), v2, v3] ∧ Up Ts H H' ∧ ∀ (j : Nat) (y : Dz01.Star), j < i → ss[j]? = some y → y.name ≠ nm)
    ⟨none, none, rfl, Up.refl tb, fun j y z => absurd z (Nat.not_lt_zero _)⟩ ?_ ?_ ?_⟩
  · rintro i σ H' ⟨v2, v3, rfl, u, _⟩
    exact SqL.of (u.lst ha)
  · rintro i y p σ H' hy ⟨v2, v3, rfl, u, inv⟩ hp
    have hi : i < ss.length := by
      have := get_lt hy
      rw [refs_len, hs.1] at this
      exact this
    have hx : ss[i]? = some ss[i] := List.getElem?_eq_getElem hi
    generalize ss[i] = x at hx
    obtain ⟨c, hc, sx⟩ := hs.2 i x hx
    rw [refs_get hc] at hy
    cases hy
    have u1 := u.new2 (o := .tup [.int (i : Nat), .ref c]) hp
    obtain ⟨⟨dx, na, ea, en⟩, ok⟩ := sx.up u1
    refine rd_unp2 (SqT.of upd_same) ?_
    walk_at "rx"
    refine ⟨c, Ct, dx, _, _, rfl, ea, C.star.cl, C.star.na _ (by decide), rfl, ?_⟩
    walk_at "rx"
    refine rd_eqD (SqL.of en) (SqL.of (u1.lst hb)) ?_
    walk_at "rx"
    refine rd_d (fun c => ?_) (fun c => ?_)
    · walk_at "rx"
      have q := q _ u1
      rw [ixV_some hx c inv] at q
      exact q
    · walk_at "rx"
      refine ⟨_, _, rfl, u1, fun j y hj e => ?_⟩
      by_cases z : j = i
      · subst z
        rw [hx] at e
        cases e
        exact c
      · exact inv j y (by omega) e
  · rintro σ H' ⟨v2, v3, rfl, u, inv⟩
    walk_at "rx"
    have q := q H' u
    rw [ixV_none fun i x e => inv i x (by rw [refs_len, hs.1]; exact get_lt e) e] at q
    exact q
end
section
variable {P : Program} {w : World} {K : PySem.W.Frag} {mg : Str → Option Value} {base : Heap} {Ts : List (Addr × Str)} {Ct Cs : Addr}
/-- stars whose names stand at addresses with X -/
def StarsX (X : Addr → Prop) (Ct : Addr) (H : Hp) (as : List Addr) (ss : List Dz01.Star) : Prop := as.length = ss.length ∧ ∀ (i : Nat) (x : Dz01.Star), ss[i]? = some x → ∃ a dx na, as[i]? = some a ∧ H a = some (.ins Ct dx (starF na x)) ∧ H na = some (.lst (vn x.name)) ∧ X na ∧ StarOk x
theorem StarsX.toL {X : Addr → Prop} {H : Hp} {as : List Addr} {ss : List Dz01.Star} (h : StarsX X Ct H as ss) : StarsL Ct H as ss := ⟨h.1, fun i x e => by
  obtain ⟨a, dx, na, e1, e2, e3, _, ok⟩ := h.2 i x e
  exact ⟨a, e1, ⟨dx, na, e2, e3⟩, ok⟩⟩
theorem StarsX.imp {X Y : Addr → Prop} {H : Hp} {as : List Addr} {ss : List Dz01.Star} (h : StarsX X Ct H as ss) (k : ∀ na xs, H na = some (.lst xs) → X na → Y na) : StarsX Y Ct H as ss := ⟨h.1, fun i x e => by
  obtain ⟨a, dx, na, e1, e2, e3, hx, ok⟩ := h.2 i x e
  exact ⟨a, dx, na, e1, e2, e3, k na _ e3 hx, ok⟩⟩
theorem StarsX.up {X : Addr → Prop} {H H1 : Hp} {as : List Addr} {ss : List Dz01.Star} (h : StarsX X Ct H as ss) (u : Up Ts H H1) : StarsX X Ct H1 as ss := ⟨h.1, fun i x e => by
  obtain ⟨a, dx, na, e1, e2, e3, hx, ok⟩ := h.2 i x e
  exact ⟨a, dx, na, e1, u.ins e2, u.lst e3, hx, ok⟩⟩
theorem StarsX.put {X : Addr → Prop} {H : Hp} {as : List Addr} {ss : List Dz01.Star} {D : Addr} {o : HO} {ys : List V} (h : StarsX X Ct H as ss) (k : H D = some (.lst ys)) (n : ∀ na, X na → na ≠ D) : StarsX X Ct (upd H D o) as ss := ⟨h.1, fun i x e => by
  obtain ⟨a, dx, na, e1, e2, e3, hx, ok⟩ := h.2 i x e
  refine ⟨a, dx, na, e1, ?_, ?_, hx, ok⟩
  · rw [upd_ne (fun z => by rw [z, k] at e2; cases e2)]
    exact e2
  · rw [upd_ne (n na hx)]
    exact e3⟩
theorem StarsX.snoc {X : Addr → Prop} {H : Hp} {as : List Addr} {ss : List Dz01.Star} {a dx na : Addr} {t : Dz01.Star} (h : StarsX X Ct H as ss) (k : H a = some (.ins Ct dx (starF na t))) (k2 : H na = some (.lst (vn t.name))) (kx : X na) (ok : StarOk t) : StarsX X Ct H (as ++ [a]) (ss ++ [t]) := by
  refine ⟨by rw [List.length_append, List.length_append, h.1]; rfl, fun i x e => ?_⟩
  by_cases c : i < ss.length
  · rw [List.getElem?_append_left c] at e
    obtain ⟨b, dy, nb, e1, e2⟩ := h.2 i x e
    exact ⟨b, dy, nb, by rw [List.getElem?_append_left (by rw [h.1]; exact c)]; exact e1, e2⟩
  · rw [List.getElem?_append_right (by omega)] at e
    have e0 : i - ss.length = 0 := by
      by_cases z : i - ss.length = 0
      · exact z
      · rw [List.getElem?_eq_none (by show 1 ≤ _; omega)] at e
        cases e
    rw [e0] at e
    have e' : t = x := Option.some.inj e
    subst e'
    refine ⟨a, dx, na, ?_, k, k2, kx, ok⟩
    rw [List.getElem?_append_right (by rw [h.1]; omega), h.1, e0]
    rfl
def raB (l : List Nat) : Bool := sixB l && decide (Dz01.natOf (l.take 2) < 24)
def magB (l : List Nat) : Bool := (magF.map (fitsB (noM l))).any id
def motB (l : List Nat) : Bool := (motF.map (fitsB (noM l))).any id
def star6 (n a d m p q : List Nat) : Dz01.Star := ⟨n, 15 * (thouN a : Int), sgn d (thouN d.tail : Int), sgn m (magV (noM m) : Int), sgn p (Dz01.natOf (noM p) : Int), sgn q (Dz01.natOf (noM q) : Int)⟩
theorem readStar6 (n a d m p q : List Nat) : Dz01.readStar [n, a, d, m, p, q] = if Dz01.isName n = false then .error 2 else if raB a = false then .error 3 else if decB d = false then .error 4 else if magB m = false then .error 5 else if (motB p && motB q) = false then .error 6 else .ok (star6 n a d m p q) := by
  unfold Dz01.readStar
  dsimp only
  rw [ra_read, dec_read, mag_read, mot_read, mot_read]
  show _ = if _ then _ else if (sixB a && decide (Dz01.natOf (a.take 2) < 24)) = false then _ else if _ then _ else if (magF.map (fitsB (noM m))).any id = false then _ else if ((motF.map (fitsB (noM p))).any id && (motF.map (fitsB (noM q))).any id) = false then _ else _
  by_cases h1 : Dz01.isName n = false
  · rw [if_pos h1, if_pos h1]
  rw [if_neg h1, if_neg h1]
  generalize (sixB a && decide (Dz01.natOf (a.take 2) < 24)) = x1
  generalize decB d = x2
  generalize (magF.map (fitsB (noM m))).any id = x3
  generalize (motF.map (fitsB (noM p))).any id = x4
  generalize (motF.map (fitsB (noM q))).any id = x5
  cases x1
  · rfl
  cases x2
  · rfl
  cases x3
  · rfl
  cases x4
  · rfl
  cases x5 <;> rfl
theorem readStar_len {ws : List (List Nat)} (h : ws.length ≠ 6) : Dz01.readStar ws = .error 1 := by
  unfold Dz01.readStar
  split
  · exact absurd rfl h
  · rfl
def kindN (ws : List (List Nat)) (ss : List Dz01.Star) : Nat := match Dz01.readStar ws with
  | .error e => e
  | .ok s => if ss.any (fun x => x.name == s.name) = true then 7 else if 60 ≤ ss.length then 8 else 0
theorem any_ix (ss : List Dz01.Star) (nm : List Nat) : (!decide (ixV ss nm = .non)) = ss.any fun x => x.name == nm := by
  unfold ixV
  rw [← List.findIdx?_isSome]
  cases ss.findIdx? (fun x => x.name == nm) <;> rfl
theorem mag_lt {u : List Nat} (h : MagForm u) : magV u ≤ 99999 := by
  obtain ⟨a, b, da, db, a1, a2, ⟨rfl, rfl⟩ | ⟨rfl, b1, b2⟩⟩ := h
  · unfold magV
    rw [split_one (c := 46) (da.ne (by decide))]
    dsimp only
    have := natOf_bd a2 da
    omega
  · unfold magV
    rw [split_app (da.ne (by decide)), split_one (db.ne (by decide))]
    dsimp only
    have h1 := natOf_bd a2 da
    have c : b.length = 1 ∨ b.length = 2 ∨ b.length = 3 := by omega
    rcases c with e | e | e
    · have h2 := natOf_bd (n := 1) (by omega) db
      rw [e]
      omega
    · have h2 := natOf_bd (n := 2) (by omega) db
      rw [e]
      omega
    · have h2 := natOf_bd (n := 3) (by omega) db
      rw [e]
      omega
theorem sgn_bx {l : List Nat} {n : Nat} {M : Int} (h : (n : Int) ≤ M) : Bx M (sgn l n) := by
  unfold sgn
  split
  · exact ⟨by omega, by omega⟩
  · exact ⟨by omega, by omega⟩
theorem ra_fits {l : List Nat} (h : raB l = true) : fitsB l angF = true := by
  unfold raB sixB at h
  rw [Bool.and_eq_true, Bool.and_eq_true] at h
  exact h.1.1
theorem dec_fits {l : List Nat} (h : decB l = true) : fitsB l.tail angF = true ∧ thouN l.tail ≤ 324000000 := by
  unfold decB sixB at h
  rw [Bool.and_eq_true, Bool.and_eq_true, Bool.and_eq_true] at h
  exact ⟨h.2.1.1, of_decide_eq_true h.2.2⟩
theorem mot_dg {l : List Nat} (h : motB l = true) : DG (noM l) ∧ (noM l).length ≤ 5 := by
  obtain ⟨h1, h2⟩ := mot_iff.mp h
  exact ⟨(digits_iff.mp h1).2, h2⟩
theorem star6_ok {n a d m p q : List Nat} (h1 : Dz01.isName n = true) (h2 : raB a = true) (h3 : decB d = true) (h4 : magB m = true) (h5 : motB p = true) (h6 : motB q = true) : StarOk (star6 n a d m p q) := by
  have r1 : thouN a < 86400000 := by
    have e := sex_eq 24 a
    rw [if_pos (show (sixB a && decide (Dz01.natOf (a.take 2) < 24)) = true from h2)] at e
    have := sex_lt e
    omega
  have r2 := (dec_fits h3).2
  have r3 := mag_lt (mag_iff.mp h4)
  have r4 := natOf_bd (mot_dg h5).2 (mot_dg h5).1
  have r5 := natOf_bd (mot_dg h6).2 (mot_dg h6).1
  rw [name_read, Bool.and_eq_true, Bool.and_eq_true, Bool.and_eq_true, List.all_eq_true] at h1
  obtain ⟨⟨⟨n1, n2⟩, _⟩, n3⟩ := h1
  have n1 := of_decide_eq_true n1
  refine ⟨⟨?_, ?_⟩, sgn_bx (by omega), sgn_bx (by omega), sgn_bx (by omega), sgn_bx (by omega), of_decide_eq_true n2, fun z => ?_, fun b hb => ?_⟩
  · show 0 ≤ 15 * (thouN a : Int)
    omega
  · show 15 * (thouN a : Int) < 1296000000
    omega
  · have z : n = [] := z
    rw [z] at n1
    exact absurd n1 (by decide)
  · have k := n3 b hb
    rw [Bool.or_eq_true, Bool.or_eq_true] at k
    rcases k with (k | k) | k
    · have := (and_t (c := 97 ≤ b) (d := b ≤ 122) k).2
      omega
    · have := (digit_bd k).2
      omega
    · have := of_decide_eq_true k
      omega
theorem sc_error_kind : FnScope ["words", "stars"] ["words", "stars"] (defScope (top 121)) := ⟨rfl, rfl, rfl, by decide +kernel, rfl, by decide +kernel, by decide +kernel⟩
def spKind (Ts : List (Addr × Str)) (Ct : Addr) : Sp := fun vs H Q _ => ∃ (a b : Addr) (ps as : List Addr) (ws : List (List Nat)) (ss : List Dz01.Star), vs = [.ref a, .ref b] ∧ H a = some (.lst (refs ps)) ∧ WordsL H ps ws ∧ H b = some (.lst (refs as)) ∧ StarsL Ct H as ss ∧ Tabs Ts H ∧ ∀ H', Up Ts H H' → Q (.int (kindN ws ss : Nat)) H'
theorem has_error_kind (C : Ctx P w K mg base Ts Ct Cs) : Has P w K mg base "error_kind" 5 ["words", "stars"] (spKind Ts Ct) := by
  refine has_of C.t.d_error_kind sc_error_kind (fun vs H Q E h => by obtain ⟨a, b, _, _, _, _, rfl, _⟩ := h; rfl) (fun _ _ _ _ _ _ us hl => match us, hl with | [_, _], _ => rfl) fun f cdv A outer s H vs Q E hr h => ⟨_, (pss_cons (ps_if (pt_cmpR op_ne (pe_callB call_len_seq (by rfl) C.t.len_ (by decide +kernel) (pa_cons (pv 0) pa_nil)) pe_int (nomark _)) (pss_one (ps_ret pe_int)) pss_nil) (pss_cons (ps_if (pt_not (pt_val (pe_h (has_is_name C) (hr.mono (by decide)) rfl (pa_cons (pe_ix ix_list (pv 0) pe_int (fun _ _ => rfl)) pa_nil)))) (pss_one (ps_ret pe_int)) pss_nil) (pss_cons (ps_if (pt_not (pt_val (pe_h (has_is_right_ascension C) (hr.mono (by decide)) rfl (pa_cons (pe_ix ix_list (pv 0) pe_int (fun _ _ => rfl)) pa_nil)))) (pss_one (ps_ret pe_int)) pss_nil) (pss_cons (ps_if (pt_not (pt_val (pe_h (has_is_declination C) (hr.mono (by decide)) rfl (pa_cons (pe_ix ix_list (pv 0) pe_int (fun _ _ => rfl)) pa_nil)))) (pss_one (ps_ret pe_int)) pss_nil) (pss_cons (ps_if (pt_not (pt_val (pe_h (has_is_magnitude C) (hr.mono (by decide)) rfl (pa_cons (pe_ix ix_list (pv 0) pe_int (fun _ _ => rfl)) pa_nil)))) (pss_one (ps_ret pe_int)) pss_nil) (pss_cons (ps_if (pt_not (PW.pt (pw_and (pt_val (pe_h (has_is_motion C) (hr.mono (by decide)) rfl (pa_cons (pe_ix ix_list (pv 0) pe_int (fun _ _ => rfl)) pa_nil))) (pw_and1 (pt_val (pe_h (has_is_motion C) (hr.mono (by decide)) rfl (pa_cons (pe_ix ix_list (pv 0) pe_int (fun _ _ => rfl)) pa_nil))))))) (pss_one (ps_ret pe_int)) pss_nil) (pss_cons (ps_if (pt_cmpR op_notN (pe_h (has_index_of_name C) (hr.mono (by decide)) rfl (pa_cons (pv 1) (pa_cons (pe_ix ix_list (pv 0) pe_int (fun _ _ => rfl)) pa_nil))) pe_non (nomark _)) (pss_one (ps_ret pe_int)) pss_nil) (pss_cons (ps_if (pt_cmpR op_ge (pe_callB call_len_seq (by rfl) C.t.len_ (by decide +kernel) (pa_cons (pv 1) pa_nil)) (pe_gi C.t.MOST_STARS) (nomark _)) (pss_one (ps_ret pe_int)) pss_nil) (pss_one (ps_ret pe_int)))))))))), ?_⟩
  obtain ⟨a, b, ps, as, ws, ss, rfl, ha, W, hb, hs, tb, q⟩ := h
  walk_at "rx"
  refine ⟨a, refs ps, rfl, .inl (SqL.of ha), ?_⟩
  rw [refs_len, W.1]
  walk_at "rx"
  refine rd_nd (fun c => ?_) (fun c => ?_)
  · walk_at "rx"
    have q := q H (Up.refl tb)
    unfold kindN at q
    rw [readStar_len (by omega)] at q
    exact q
  match ws, c with
  | [w0, w1, w2, w3, w4, w5], _ =>
    obtain ⟨a0, e0, h0⟩ := W.2 0 w0 rfl
    obtain ⟨a1, e1, h1⟩ := W.2 1 w1 rfl
    obtain ⟨a2, e2, h2⟩ := W.2 2 w2 rfl
    obtain ⟨a3, e3, h3⟩ := W.2 3 w3 rfl
    obtain ⟨a4, e4, h4⟩ := W.2 4 w4 rfl
    obtain ⟨a5, e5, h5⟩ := W.2 5 w5 rfl
    unfold kindN at q
    rw [readStar6] at q
    walk_at "rx"
    refine ⟨a, refs ps, 0, _, rfl, rfl, SqL.of ha, at_of (j := 0) rfl (refs_get e0), ?_⟩
    walk_at "rx"
    refine rd_b1 h0 trivial tb fun H1 u1 => ?_
    walk_at "rx"
    refine rd_nb (fun c => ?_) (fun c => ?_)
    · rw [if_pos c] at q
      walk_at "rx"
      exact q H1 u1
    rw [if_neg (by rw [c]; decide)] at q
    walk_at "rx"
    refine ⟨a, refs ps, 1, _, rfl, rfl, SqL.of (u1.lst ha), at_of (j := 1) rfl (refs_get e1), ?_⟩
    walk_at "rx"
    refine rd_b1 (u1.lst h1) trivial u1.2 fun H2 u2 => ?_
    have U2 := u1.trans u2
    walk_at "rx"
    refine rd_nb (fun c => ?_) (fun c => ?_)
    · rw [if_pos (show raB w1 = false from c)] at q
      walk_at "rx"
      exact q H2 U2
    rw [if_neg (by rw [show raB w1 = true from c]; decide)] at q
    walk_at "rx"
    refine ⟨a, refs ps, 2, _, rfl, rfl, SqL.of (U2.lst ha), at_of (j := 2) rfl (refs_get e2), ?_⟩
    walk_at "rx"
    refine rd_b1 (U2.lst h2) trivial U2.2 fun H3 u3 => ?_
    have U3 := U2.trans u3
    walk_at "rx"
    refine rd_nb (fun c => ?_) (fun c => ?_)
    · rw [if_pos c] at q
      walk_at "rx"
      exact q H3 U3
    rw [if_neg (by rw [c]; decide)] at q
    walk_at "rx"
    refine ⟨a, refs ps, 3, _, rfl, rfl, SqL.of (U3.lst ha), at_of (j := 3) rfl (refs_get e3), ?_⟩
    walk_at "rx"
    refine rd_b1 (U3.lst h3) trivial U3.2 fun H4 u4 => ?_
    have U4 := U3.trans u4
    walk_at "rx"
    refine rd_nb (fun c => ?_) (fun c => ?_)
    · rw [if_pos (show magB w3 = false from c)] at q
      walk_at "rx"
      exact q H4 U4
    rw [if_neg (by rw [show magB w3 = true from c]; decide)] at q
    walk_at "rx"
    refine rd_andG (b1 := motB w4) (b2 := motB w5) (fun H' => Up Ts H H') (fun Q1 q1 => ?_) (fun H5 u5 c5 Q1 q1 => ?_) (fun H6 u6 => ?_)
    · walk_at "rx"
      refine ⟨a, refs ps, 4, _, rfl, rfl, SqL.of (U4.lst ha), at_of (j := 4) rfl (refs_get e4), ?_⟩
      walk_at "rx"
      refine rd_b1 (U4.lst h4) trivial U4.2 fun H5 u5 => ?_
      walk_at "rx"
      exact q1 H5 (U4.trans u5)
    · walk_at "rx"
      refine ⟨a, refs ps, 5, _, rfl, rfl, SqL.of (u5.lst ha), at_of (j := 5) rfl (refs_get e5), ?_⟩
      walk_at "rx"
      refine rd_b1 (u5.lst h5) trivial u5.2 fun H6 u6 => ?_
      walk_at "rx"
      exact q1 H6 (u5.trans u6)
    refine rd_nb (fun c => ?_) (fun c => ?_)
    · rw [if_pos c] at q
      walk_at "rx"
      exact q H6 u6
    rw [if_neg (by rw [c]; decide)] at q
    have q : ∀ H', Up Ts H H' → Q (.int ((if ss.any (fun x => x.name == w0) = true then 7 else if 60 ≤ ss.length then 8 else 0 : Nat) : Nat)) H' := q
    walk_at "rx"
    refine ⟨a, refs ps, 0, _, rfl, rfl, SqL.of (u6.lst ha), at_of (j := 0) rfl (refs_get e0), ?_⟩
    walk_at "rx"
    refine ⟨b, a0, as, ss, w0, rfl, u6.lst hb, hs.up u6, u6.lst h0, u6.2, fun H7 u7 => ?_⟩
    have U7 := u6.trans u7
    walk_at "rx"
    refine ⟨rfl, ?_⟩
    rw [any_ix]
    walk_at "rx"
    refine rd_b (fun c => ?_) (fun c => ?_)
    · rw [if_pos c] at q
      walk_at "rx"
      exact q H7 U7
    rw [if_neg (by rw [c]; decide)] at q
    walk_at "rx"
    refine ⟨b, refs as, rfl, .inl (SqL.of (U7.lst hb)), ?_⟩
    rw [refs_len, hs.1]
    walk_at "rx"
    refine rd_d (fun c => ?_) (fun c => ?_)
    · rw [if_pos (by omega)] at q
      walk_at "rx"
      exact q H7 U7
    · rw [if_neg (by omega)] at q
      walk_at "rx"
      exact q H7 U7
theorem sc_star_of : FnScope ["words", "motions"] ["words"] (defScope (top 122)) := ⟨rfl, rfl, rfl, by decide +kernel, rfl, by decide +kernel, by decide +kernel⟩
theorem star6_eq {ws : List (List Nat)} {x : Dz01.Star} (h : Dz01.readStar ws = .ok x) : ∃ n a d m p q, ws = [n, a, d, m, p, q] ∧ x = star6 n a d m p q ∧ Dz01.isName n = true ∧ raB a = true ∧ decB d = true ∧ magB m = true ∧ motB p = true ∧ motB q = true := by
  by_cases c : ws.length = 6
  · match ws, c with
    | [n, a, d, m, p, q], _ =>
      rw [readStar6] at h
      cases c1 : Dz01.isName n with
      | false =>
        rw [if_pos c1] at h
        cases h
      | true =>
        cases c2 : raB a with
        | false =>
          rw [if_neg (by rw [c1]; decide), if_pos c2] at h
          cases h
        | true =>
          cases c3 : decB d with
          | false =>
            rw [if_neg (by rw [c1]; decide), if_neg (by rw [c2]; decide), if_pos c3] at h
            cases h
          | true =>
            cases c4 : magB m with
            | false =>
              rw [if_neg (by rw [c1]; decide), if_neg (by rw [c2]; decide), if_neg (by rw [c3]; decide), if_pos c4] at h
              cases h
            | true =>
              cases c5 : (motB p && motB q) with
              | false =>
                rw [if_neg (by rw [c1]; decide), if_neg (by rw [c2]; decide), if_neg (by rw [c3]; decide), if_neg (by rw [c4]; decide), if_pos c5] at h
                cases h
              | true =>
                rw [if_neg (by rw [c1]; decide), if_neg (by rw [c2]; decide), if_neg (by rw [c3]; decide), if_neg (by rw [c4]; decide), if_neg (by rw [c5]; decide)] at h
                rw [Bool.and_eq_true] at c5
                cases h
                exact ⟨n, a, d, m, p, q, rfl, rfl, c1, c2, c3, c4, c5.1, c5.2⟩
  · rw [readStar_len c] at h
    cases h
def spStarOf (Ts : List (Addr × Str)) (Ct : Addr) : Sp := fun vs H Q _ => ∃ (a : Addr) (ps : List Addr) (ws : List (List Nat)) (x : Dz01.Star), vs = [.ref a] ∧ H a = some (.lst (refs ps)) ∧ WordsL H ps ws ∧ Dz01.readStar ws = .ok x ∧ Tabs Ts H ∧ ∀ H' p dx na, Up Ts H H' → ps[0]? = some na → H' p = some (.ins Ct dx (starF na x)) → H' na = some (.lst (vn x.name)) → StarOk x → Q (.ref p) H'
theorem has_star_of (C : Ctx P w K mg base Ts Ct Cs) : Has P w K mg base "star_of" 4 ["words"] (spStarOf Ts Ct) := by
  refine has_of C.t.d_star_of sc_star_of (fun vs H Q E h => by obtain ⟨a, _, _, _, rfl, _⟩ := h; rfl) (fun _ _ _ _ _ _ us hl => match us, hl with | [_], _ => rfl) fun f cdv A outer s H vs Q E hr h => ⟨_, (pss_cons (ps_set (i := 1) sc_star_of.nd rfl (Or.inl rfl) (pe_tup (pa_cons (pe_h (has_motion_of C) (hr.mono (by decide)) rfl (pa_cons (pe_ix ix_list (pv 0) pe_int (fun _ _ => rfl)) pa_nil)) (pa_cons (pe_h (has_motion_of C) (hr.mono (by decide)) rfl (pa_cons (pe_ix ix_list (pv 0) pe_int (fun _ _ => rfl)) pa_nil)) pa_nil)))) (pss_one (ps_ret (pe_mkStar C (hr.mono (by decide)) (pa_cons (pe_ix ix_list (pv 0) pe_int (fun _ _ => rfl)) (pa_cons (pe_h (has_right_ascension_of C) (hr.mono (by decide)) rfl (pa_cons (pe_ix ix_list (pv 0) pe_int (fun _ _ => rfl)) pa_nil)) (pa_cons (pe_h (has_declination_of C) (hr.mono (by decide)) rfl (pa_cons (pe_ix ix_list (pv 0) pe_int (fun _ _ => rfl)) pa_nil)) (pa_cons (pe_h (has_magnitude_of C) (hr.mono (by decide)) rfl (pa_cons (pe_ix ix_list (pv 0) pe_int (fun _ _ => rfl)) pa_nil)) (pa_cons (pv 1) pa_nil))))))))), ?_⟩
  obtain ⟨a, ps, ws, x, rfl, ha, W, hx, tb, q⟩ := h
  obtain ⟨w0, w1, w2, w3, w4, w5, rfl, rfl, c0, c1, c2, c3, c4, c5⟩ := star6_eq hx
  obtain ⟨a0, e0, h0⟩ := W.2 0 w0 rfl
  obtain ⟨a1, e1, h1⟩ := W.2 1 w1 rfl
  obtain ⟨a2, e2, h2⟩ := W.2 2 w2 rfl
  obtain ⟨a3, e3, h3⟩ := W.2 3 w3 rfl
  obtain ⟨a4, e4, h4⟩ := W.2 4 w4 rfl
  obtain ⟨a5, e5, h5⟩ := W.2 5 w5 rfl
  have ok := star6_ok c0 c1 c2 c3 c4 c5
  walk_at "rx"
  refine ⟨a, refs ps, 4, _, rfl, rfl, SqL.of ha, at_of (j := 4) rfl (refs_get e4), ?_⟩
  walk_at "rx"
  refine rd_b1 h4 (mot_dg c4) tb fun H1 u1 => ?_
  walk_at "rx"
  refine ⟨a, refs ps, 5, _, rfl, rfl, SqL.of (u1.lst ha), at_of (j := 5) rfl (refs_get e5), ?_⟩
  walk_at "rx"
  refine rd_b1 (u1.lst h5) (mot_dg c5) u1.2 fun H2 u2 => ?_
  have U2 := u1.trans u2
  walk_at "rx"
  refine ⟨by show 2 ≤ sizeLine; decide, fun mo hmo => ?_⟩
  have U3 := U2.new2 (o := .tup [.int (sgn w4 (Dz01.natOf (noM w4) : Int)), .int (sgn w5 (Dz01.natOf (noM w5) : Int))]) hmo
  have emo : upd H2 mo (.tup [.int (sgn w4 (Dz01.natOf (noM w4) : Int)), .int (sgn w5 (Dz01.natOf (noM w5) : Int))]) mo = some (.tup [.int (sgn w4 (Dz01.natOf (noM w4) : Int)), .int (sgn w5 (Dz01.natOf (noM w5) : Int))]) := upd_same
  generalize upd H2 mo (.tup [.int (sgn w4 (Dz01.natOf (noM w4) : Int)), .int (sgn w5 (Dz01.natOf (noM w5) : Int))]) = H3 at U3 emo ⊢
  walk_at "rx"
  refine ⟨a, refs ps, 0, _, rfl, rfl, SqL.of (U3.lst ha), at_of (j := 0) rfl (refs_get e0), ?_⟩
  walk_at "rx"
  refine ⟨a, refs ps, 1, _, rfl, rfl, SqL.of (U3.lst ha), at_of (j := 1) rfl (refs_get e1), ?_⟩
  walk_at "rx"
  refine rd_b1 (U3.lst h1) (ra_fits c1) U3.2 fun H4 u4 => ?_
  have U4 := U3.trans u4
  walk_at "rx"
  refine ⟨a, refs ps, 2, _, rfl, rfl, SqL.of (U4.lst ha), at_of (j := 2) rfl (refs_get e2), ?_⟩
  walk_at "rx"
  refine rd_b1 (U4.lst h2) (dec_fits c2).1 U4.2 fun H5 u5 => ?_
  have U5 := U4.trans u5
  walk_at "rx"
  refine ⟨a, refs ps, 3, _, rfl, rfl, SqL.of (U5.lst ha), at_of (j := 3) rfl (refs_get e3), ?_⟩
  walk_at "rx"
  refine rd_b1 (U5.lst h3) (mag_iff.mp c3) U5.2 fun H6 u6 => ?_
  have U6 := U5.trans u6
  have emo6 := u6.tup (u5.tup (u4.tup emo))
  walk_at "rx"
  intro x dx hx1 hx2 ne
  have U7 := U6.new2 (o := .own x) hx2
  have hx1' : upd H6 dx (.own x) x = none := by
    rw [upd_ne ne.symm]
    exact hx1
  have U8 := U7.new2 (o := .ins Ct dx (starF a0 (star6 w0 w1 w2 w3 w4 w5))) hx1'
  have nmo : mo ≠ x := fun z => by
    rw [z, hx1] at emo6
    cases emo6
  have nmo2 : mo ≠ dx := fun z => by
    rw [z, hx2] at emo6
    cases emo6
  refine ⟨x, dx, a0, mo, star6 w0 w1 w2 w3 w4 w5, rfl, upd_same, by rw [upd_ne nmo, upd_ne nmo2]; exact emo6, rfl, ?_⟩
  rw [upd_upd]
  exact q _ x dx a0 U8 e0 upd_same (U8.lst h0) ok
end
section
variable {P : Program} {w : World} {K : PySem.W.Frag} {mg : Str → Option Value} {base : Heap} {Ts : List (Addr × Str)} {Ct Cs : Addr}
theorem sc_read_catalogue : FnScope ["text", "stars", "number", "line", "words", "kind"] ["text"] (defScope (top 123)) := ⟨rfl, rfl, rfl, by decide +kernel, rfl, by decide +kernel, by decide +kernel⟩
/-- what reading a text gives -/
def ReadR (Ct : Addr) (H0 H : Hp) (e s : Addr) (l : List Nat) : Prop :=
  (Dz01.textOkay 6000 l = false ∧ H e = some (.lst (vi [-1]))) ∨
  (Dz01.textOkay 6000 l = true ∧ ∃ k n : Nat, Dz01.readCatalogue l = .error (k, n) ∧ H e = some (.lst (vi [-10 - (k : Int), (n : Int)]))) ∨
  (Dz01.textOkay 6000 l = true ∧ ∃ as ss, Dz01.readCatalogue l = .ok ss ∧ H e = some (.lst []) ∧ H s = some (.lst (refs as)) ∧ StarsX (Nw H0) Ct H as ss ∧ ss.length ≤ 60 ∧ Nw H0 s)
def spRead (Ts : List (Addr × Str)) (Ct : Addr) : Sp := fun vs H Q _ => ∃ (a : Addr) (l : List Nat), vs = [.ref a] ∧ H a = some (.lst (vn l)) ∧ l.length ≤ 6100 ∧ Tabs Ts H ∧ ∀ H' p e s, Up Ts H H' → Nw H e → H' p = some (.tup [.ref e, .ref s]) → ReadR Ct H H' e s l → Q (.ref p) H'
theorem ign_lines {ss : List Dz01.Star} {k : Nat} {l : List Nat} {ls : List (List Nat)} (h : ign (Dz01.wordsOf l) = true) : Dz01.readLines ss k (l :: ls) = Dz01.readLines ss (k + 1) ls := by
  show (match Dz01.wordsOf l with
    | [] => Dz01.readLines ss (k + 1) ls
    | w :: ws => if w.head? = some 35 then Dz01.readLines ss (k + 1) ls else match Dz01.readStar (w :: ws) with
      | .error e => .error (e, k)
      | .ok s => if ss.any (fun x => x.name == s.name) = true then .error (7, k) else if Dz01.MAX_STARS ≤ ss.length then .error (8, k) else Dz01.readLines (ss ++ [s]) (k + 1) ls) = _
  cases e : Dz01.wordsOf l with
  | nil => rfl
  | cons w ws =>
    rw [e] at h
    exact if_pos (of_decide_eq_true h)
theorem kind_lines {ss : List Dz01.Star} {k : Nat} {l : List Nat} {ls : List (List Nat)} (h : ign (Dz01.wordsOf l) = false) : Dz01.readLines ss k (l :: ls) = match Dz01.readStar (Dz01.wordsOf l) with
      | .error e => .error (e, k)
      | .ok s => if ss.any (fun x => x.name == s.name) = true then .error (7, k) else if Dz01.MAX_STARS ≤ ss.length then .error (8, k) else Dz01.readLines (ss ++ [s]) (k + 1) ls := by
  show (match Dz01.wordsOf l with
    | [] => Dz01.readLines ss (k + 1) ls
    | w :: ws => if w.head? = some 35 then Dz01.readLines ss (k + 1) ls else match Dz01.readStar (w :: ws) with
      | .error e => .error (e, k)
      | .ok s => if ss.any (fun x => x.name == s.name) = true then .error (7, k) else if Dz01.MAX_STARS ≤ ss.length then .error (8, k) else Dz01.readLines (ss ++ [s]) (k + 1) ls) = _
  cases e : Dz01.wordsOf l with
  | nil =>
    rw [e] at h
    cases h
  | cons w ws =>
    rw [e] at h
    exact if_neg (of_decide_eq_false h)
theorem err_pos {ws : List (List Nat)} {e : Nat} (h : Dz01.readStar ws = .error e) : e ≠ 0 := by
  by_cases c : ws.length = 6
  · match ws, c with
    | [n, a, d, m, p, q], _ =>
      rw [readStar6] at h
      split at h
      · cases h
        decide
      split at h
      · cases h
        decide
      split at h
      · cases h
        decide
      split at h
      · cases h
        decide
      split at h
      · cases h
        decide
      cases h
  · rw [readStar_len c] at h
    cases h
    decide
theorem err_lines {ss : List Dz01.Star} {k : Nat} {l : List Nat} {ls : List (List Nat)} (h : ign (Dz01.wordsOf l) = false) (hk : kindN (Dz01.wordsOf l) ss ≠ 0) : Dz01.readLines ss k (l :: ls) = .error (kindN (Dz01.wordsOf l) ss, k) := by
  rw [kind_lines h]
  unfold kindN at *
  cases e : Dz01.readStar (Dz01.wordsOf l) with
  | error e => rfl
  | ok s =>
    rw [e] at hk
    dsimp only at hk ⊢
    by_cases c1 : ss.any (fun x => x.name == s.name) = true
    · rw [if_pos c1, if_pos c1]
    · rw [if_neg c1] at hk
      rw [if_neg c1, if_neg c1]
      have m : Dz01.MAX_STARS = 60 := rfl
      rw [m]
      by_cases c2 : 60 ≤ ss.length
      · rw [if_pos c2, if_pos c2]
      · rw [if_neg c2] at hk
        exact absurd rfl hk
theorem ok_lines {ss : List Dz01.Star} {k : Nat} {l : List Nat} {ls : List (List Nat)} (h : ign (Dz01.wordsOf l) = false) (hk : kindN (Dz01.wordsOf l) ss = 0) : ∃ x, Dz01.readStar (Dz01.wordsOf l) = .ok x ∧ ss.length < 60 ∧ Dz01.readLines ss k (l :: ls) = Dz01.readLines (ss ++ [x]) (k + 1) ls := by
  rw [kind_lines h]
  unfold kindN at hk
  cases e : Dz01.readStar (Dz01.wordsOf l) with
  | error e' =>
    rw [e] at hk
    exact absurd hk (err_pos e)
  | ok s =>
    rw [e] at hk
    dsimp only at hk ⊢
    by_cases c1 : ss.any (fun x => x.name == s.name) = true
    · rw [if_pos c1] at hk
      cases hk
    · rw [if_neg c1] at hk
      have m : Dz01.MAX_STARS = 60 := rfl
      by_cases c2 : 60 ≤ ss.length
      · rw [if_pos c2] at hk
        cases hk
      · refine ⟨s, rfl, by omega, ?_⟩
        rw [if_neg c1, m, if_neg c2]
theorem has_read_catalogue (C : Ctx P w K mg base Ts Ct Cs) : Has P w K mg base "read_catalogue" 6 ["text"] (spRead Ts Ct) := by
  refine has_of C.t.d_read_catalogue sc_read_catalogue (fun vs H Q E h => by obtain ⟨a, _, rfl, _⟩ := h; rfl) (fun _ _ _ _ _ _ us hl => match us, hl with | [_], _ => rfl) fun f cdv A outer s H vs Q E hr h => ⟨_, (pss_cons (ps_if (pt_not (pt_val (pe_h (has_is_allowed C) (hr.mono (by decide)) rfl (pa_cons (pv 0) pa_nil)))) (pss_one (ps_ret (pe_tup (pa_cons (pe_lst (pa_cons (pe_un un_neg (pe_gi C.t.TEXT_NOT_ALLOWED)) pa_nil)) (pa_cons (pe_lst pa_nil) pa_nil))))) pss_nil) (pss_cons (ps_set (i := 1) sc_read_catalogue.nd rfl (Or.inl rfl) (pe_lst pa_nil)) (pss_cons (ps_for PassesOwn.never rfl (pi_enumK (by rfl) C.t.enumerate_ (pa_cons (pe_h (has_parted C) (hr.mono (by decide)) rfl (pa_cons (pv 0) (pa_cons (pe_gi C.t.LINE_FEED) pa_nil))) pa_nil) (pk_cons pe_int pk_nil)) (pg_tup rfl (pgs_cons (pg_name (i := 2) sc_read_catalogue.nd rfl (Or.inl rfl)) (pgs_cons (pg_name (i := 3) sc_read_catalogue.nd rfl (Or.inl rfl)) pgs_nil))) (pss_cons (ps_set (i := 4) sc_read_catalogue.nd rfl (Or.inl rfl) (pe_h (has_words_of C) (hr.mono (by decide)) rfl (pa_cons (pv 3) pa_nil))) (pss_cons (ps_if (pt_val (pe_h (has_is_ignored C) (hr.mono (by decide)) rfl (pa_cons (pv 4) pa_nil))) (pss_one ps_continue) pss_nil) (pss_cons (ps_set (i := 5) sc_read_catalogue.nd rfl (Or.inl rfl) (pe_h (has_error_kind C) (hr.mono (by decide)) rfl (pa_cons (pv 4) (pa_cons (pv 1) pa_nil)))) (pss_cons (ps_if (pt_cmpR op_ne (pv 5) pe_int (nomark _)) (pss_one (ps_ret (pe_tup (pa_cons (pe_lst (pa_cons (pe_un un_neg (pe_op op_add (pe_gi C.t.TEXT_ERROR) (pv 5))) (pa_cons (pv 2) pa_nil))) (pa_cons (pe_lst pa_nil) pa_nil))))) pss_nil) (pss_one (ps_expr (pe_bm PySem.F.plainAttrs_list PySem.F.slot_list_append PySem.F.type_list_append mt_append (pv 1) (pa_cons (pe_h (has_star_of C) (hr.mono (by decide)) rfl (pa_cons (pv 4) pa_nil)) pa_nil))))))))) (pss_one (ps_ret (pe_tup (pa_cons (pe_lst pa_nil) (pa_cons (pv 1) pa_nil)))))))), ?_⟩
  obtain ⟨a, l, rfl, ha, hn, tb, q⟩ := h
  have cn := split_count 10 l
  walk_at "rx"
  refine rd_b1 ha trivial tb fun H1 u1 => ?_
  walk_at "rx"
  refine rd_nb (fun c => ?_) (fun c => ?_)
  · walk_at "rx"
    refine ⟨by show 1 ≤ sizeLine; decide, fun e he => ?_⟩
    have u2 := u1.new2 (o := .lst [.int (-1)]) he
    walk_at "rx"
    refine ⟨by show 0 ≤ sizeLine; decide, fun s hs => ?_⟩
    have u3 := u2.new2 (o := .lst []) hs
    have nes : e ≠ s := fun z => by
      rw [← z, upd_same] at hs
      cases hs
    walk_at "rx"
    refine ⟨by show 2 ≤ sizeLine; decide, fun p hp => ?_⟩
    have nep : e ≠ p := fun z => by
      rw [← z, upd_ne nes, upd_same] at hp
      cases hp
    exact q _ p e s (u3.new2 hp) (Nw.back u1 (Nw.of he)) upd_same (.inl ⟨c, by rw [upd_ne nep, upd_ne nes, upd_same]; rfl⟩)
  walk_at "rx"
  refine ⟨by show 0 ≤ sizeLine; decide, fun D hD => ?_⟩
  have nD := Nw.back u1 (Nw.of hD)
  have u2 := u1.new2 (o := .lst []) hD
  walk_at "rx"
  refine rd_for (rd_ienumK ?_)
  walk_at "rx"
  refine ⟨a, l, 10, rfl, u2.lst ha, hn, u2.2, fun H3 p1 ps u3 n1 hp1 W nw => ?_⟩
  have U3 := u2.trans u3
  have hD3 := u3.lst (xs := []) upd_same
  have p1D : p1 ≠ D := n1.ne (xs := []) upd_same
  have psD : ∀ x ∈ ps, x ≠ D := fun x hx => (nw x hx).ne (xs := []) upd_same
  have hp1' : H3 p1 = some (.lst (refs ps)) := hp1
  have hPk : ∀ {σ : L2.St} {G : Hp} {Q : List V → Hp → Prop}, Q [.int 1] G → Q [.int 1] G := fun h => h
  refine ⟨p1, refs ps, 1, rfl, rfl, by decide, by decide, SqL.of hp1, for_enumK (xs := refs ps) (fun i σ H' => ∃ (as : List Addr) (ss : List Dz01.Star) (v2 v3 v4 v5 : Option V), σ = [some (.ref a), some (.ref D), v2, v3, v4, v5] ∧ Up Ts H H' ∧ H' D = some (.lst (refs as)) ∧ StarsX (fun na => Nw H na ∧ na ≠ D) Ct H' as ss ∧ ss.length ≤ 60 ∧ H' p1 = some (.lst (refs ps)) ∧ WordsL H' ps (Dz01.splitAt 10 l) ∧ Dz01.readLines [] 1 (Dz01.splitAt 10 l) = Dz01.readLines ss (i + 1) ((Dz01.splitAt 10 l).drop i))
    ⟨[], [], none, none, none, none, rfl, U3, hD3, ⟨rfl, fun i x e => by cases e⟩, Nat.zero_le _, hp1, W, rfl⟩ ?_ ?_ ?_⟩
  · rintro i σ H' ⟨as, ss, v2, v3, v4, v5, rfl, u, hD', hs, hz, hq1, W', er⟩
    exact SqL.of hq1
  · rintro i y T σ H' hy ⟨as, ss, v2, v3, v4, v5, rfl, u, hD', hs, hz, hq1, W', er⟩ hT
    have hi : i < (Dz01.splitAt 10 l).length := by
      have := get_lt hy
      rw [refs_len, W.1] at this
      exact this
    have hx : (Dz01.splitAt 10 l)[i]? = some (Dz01.splitAt 10 l)[i] := List.getElem?_eq_getElem hi
    have ed : (Dz01.splitAt 10 l).drop i = (Dz01.splitAt 10 l)[i] :: (Dz01.splitAt 10 l).drop (i + 1) := List.drop_eq_getElem_cons hi
    have xl := cn.2 _ (List.getElem_mem hi)
    generalize (Dz01.splitAt 10 l)[i] = x at hx ed xl
    rw [ed] at er
    obtain ⟨b, hb, eb⟩ := W'.2 i x hx
    rw [refs_get hb] at hy
    cases hy
    have v1 := Up.new (o := .tup [.int (1 + (i : Nat)), .ref b]) u.2 hT
    refine rd_unp2 (SqT.of upd_same) ?_
    walk_at "rx"
    refine ⟨b, x, rfl, v1.lst eb, by omega, v1.2, fun H4 p4 qs u4 n4 hp4 W4 nq => ?_⟩
    have V4 := v1.trans u4
    walk_at "rx"
    refine ⟨p4, qs, Dz01.wordsOf x, rfl, hp4, W4, words_ne x, ?_⟩
    walk_at "rx"
    refine rd_b (fun c => ?_) (fun c => ?_)
    · rw [ign_lines c] at er
      walk_at "rx"
      exact ⟨as, ss, _, _, _, _, rfl, u.trans V4, V4.lst hD', hs.up V4, hz, V4.lst hq1, W'.up V4, er⟩
    walk_at "rx"
    refine ⟨p4, D, qs, as, Dz01.wordsOf x, ss, rfl, hp4, W4, V4.lst hD', (hs.up V4).toL, V4.2, fun H5 u5 => ?_⟩
    have V5 := V4.trans u5
    walk_at "rx"
    refine rd_nd (fun ck => ?_) (fun ck => ?_)
    · rw [err_lines c (by omega)] at er
      walk_at "rx"
      refine ⟨by show 2 ≤ sizeLine; decide, fun e he => ?_⟩
      have V6 := V5.new2 (o := .lst [.int (-(10 + (kindN (Dz01.wordsOf x) ss : Nat))), .int (1 + (i : Nat))]) he
      walk_at "rx"
      refine ⟨by show 0 ≤ sizeLine; decide, fun s hs => ?_⟩
      have V7 := V6.new2 (o := .lst []) hs
      have nes : e ≠ s := fun z => by
        rw [← z, upd_same] at hs
        cases hs
      walk_at "rx"
      refine ⟨by show 2 ≤ sizeLine; decide, fun p hp => ?_⟩
      have nep : e ≠ p := fun z => by
        rw [← z, upd_ne nes, upd_same] at hp
        cases hp
      refine q _ p e s (u.trans (V7.new2 hp)) (Nw.back (u.trans V5) (Nw.of he)) upd_same (.inr (.inl ⟨‹_›, kindN (Dz01.wordsOf x) ss, i + 1, er, ?_⟩))
      rw [upd_ne nep, upd_ne nes, upd_same]
      have e1 : (-(10 + (kindN (Dz01.wordsOf x) ss : Nat)) : Int) = -10 - (kindN (Dz01.wordsOf x) ss : Nat) := by omega
      have e2 : (1 + (i : Nat) : Int) = ((i + 1 : Nat) : Int) := by omega
      rw [e1, e2]
      rfl
    · obtain ⟨st, hst, h60, er2⟩ := ok_lines (k := i + 1) (ls := (Dz01.splitAt 10 l).drop (i + 1)) c (show kindN (Dz01.wordsOf x) ss = 0 by omega)
      rw [er2] at er
      walk_at "rx"
      refine ⟨.inl ⟨rfl, _, SqL.of (V5.lst hD')⟩, ?_⟩
      walk_at "rx"
      refine ⟨p4, qs, Dz01.wordsOf x, st, rfl, u5.lst hp4, W4.up u5, hst, V5.2, fun H6 p6 dx6 na6 u6 w1 w2 w3 w4 => ?_⟩
      have V6 := V5.trans u6
      have hD6 := V6.lst hD'
      refine ⟨D, refs as, .ref p6, rfl, rfl, hD6, Nat.lt_of_le_of_lt (by rw [refs_len, hs.1]; exact hz) (show 60 < sizeLine by decide), ?_⟩
      have n6 : Nw H na6 := Nw.back (u.trans v1) (nq na6 (List.mem_of_getElem? w1))
      have n6' : na6 ≠ D := (nq na6 (List.mem_of_getElem? w1)).ne (v1.lst hD')
      have sp := StarsX.put (o := .lst (refs as ++ [.ref p6])) ((hs.up V6).snoc w2 w3 ⟨n6, n6'⟩ w4) hD6 fun na h => h.2
      refine ⟨as ++ [p6], ss ++ [st], _, _, _, _, rfl, (u.trans V6).mut nD hD6, by rw [upd_same, refs_snoc], sp, by rw [List.length_append]; exact h60, by rw [upd_ne p1D]; exact V6.lst hq1, (W'.up V6).put psD, er⟩
  · rintro σ H' ⟨as, ss, v2, v3, v4, v5, rfl, u, hD', hs, hz, hq1, W', er⟩
    rw [refs_len, W.1, List.drop_length] at er
    walk_at "rx"
    refine ⟨by show 0 ≤ sizeLine; decide, fun e he => ?_⟩
    have u5 := Up.new (o := .lst []) u.2 he
    walk_at "rx"
    refine ⟨by show 2 ≤ sizeLine; decide, fun p hp => ?_⟩
    have u6 := u5.new2 (o := .tup [.ref e, .ref D]) hp
    have nep : e ≠ p := fun z => by
      rw [← z, upd_same] at hp
      cases hp
    refine q _ p e D (u.trans u6) (Nw.back u (Nw.of he)) upd_same (.inr (.inr ⟨‹_›, as, ss, er, ?_, u6.lst hD', (hs.up u6).imp fun na xs _ h => h.1, hz, nD⟩))
    rw [upd_ne nep, upd_same]
end
section
variable {P : Program} {w : World} {K : PySem.W.Frag} {mg : Str → Option Value} {base : Heap} {Ts : List (Addr × Str)} {Ct Cs : Addr}
/-! ### writing -/
def txt (l : List Nat) : Str := ⟨l.toArray⟩
theorem txt_app (a b : List Nat) : txt a ++ txt b = txt (a ++ b) := by
  show (⟨a.toArray ++ b.toArray⟩ : Str) = ⟨(a ++ b).toArray⟩
  rw [List.append_toArray]
theorem txt_len (l : List Nat) : (txt l).length = l.length := rfl
theorem digitChar_nat {d : Nat} (h : d < 10) : (Nat.digitChar d).toNat = 48 + d := by
  have k : ∀ d : Fin 10, (Nat.digitChar d.1).toNat = 48 + d.1 := by decide +kernel
  exact k ⟨d, h⟩
theorem dig_eq : ∀ (f n : Nat) (acc : List Nat), n < 10 ^ f → 0 < f → Dz01.digitsFrom f n acc = (Nat.toDigits 10 n).map Char.toNat ++ acc
  | 0, _, _, _, h => absurd h (Nat.lt_irrefl _)
  | f + 1, n, acc, h, _ => by
    show (if n / 10 = 0 then (48 + n % 10) :: acc else Dz01.digitsFrom f (n / 10) ((48 + n % 10) :: acc)) = _
    by_cases c : n < 10
    · have e : n / 10 = 0 := Nat.div_eq_of_lt c
      rw [if_pos e, Nat.toDigits_of_lt_base c, List.map_singleton, digitChar_nat c, Nat.mod_eq_of_lt c]
      rfl
    · have e : n / 10 ≠ 0 := by omega
      have hf : 0 < f := by
        cases f with
        | zero =>
          rw [Nat.pow_succ] at h
          omega
        | succ f => exact Nat.succ_pos f
      have hn : n / 10 < 10 ^ f := by
        rw [Nat.pow_succ] at h
        omega
      rw [if_neg e, dig_eq f (n / 10) _ hn hf, Nat.toDigits_of_base_le (b := 10) (n := n) (by decide) (by omega), List.map_append, List.map_singleton, digitChar_nat (by omega), List.append_assoc]
      rfl
theorem show_eq (n : Nat) : Dz01.showNat n = (Nat.toDigits 10 n).map Char.toNat := by
  unfold Dz01.showNat
  rw [dig_eq (n + 1) n [] (Nat.lt_trans (Nat.lt_succ_self n) (Nat.lt_pow_self (by decide))) (Nat.succ_pos n), List.append_nil]
theorem ofStr_nat (n : Nat) : Str.ofString (toString ((n : Nat) : Int)) = txt (Dz01.showNat n) := by
  have h := PyProof.Rows.text_ofNat n
  rw [show_eq]
  exact h
theorem str_cps (s : String) : (Str.ofString s).cps = (s.toList.map Char.toNat).toArray := by
  show (cpsOfBytes 0 0 s.toByteArray.data.toList).toArray = _
  rw [cpsOfBytes_string]
theorem ofStr_int (z : Int) : Str.ofString (toString z) = txt (Dz01.showInt z) := by
  unfold Dz01.showInt
  by_cases h : z < 0
  · rw [if_pos h]
    have e1 : toString z = "-" ++ toString z.natAbs := by
      show z.repr = _
      rw [Int.repr_eq_if, if_neg (by omega)]
      have e2 : (-z).toNat = z.natAbs := by omega
      rw [e2]
      rfl
    have e3 : Str.ofString (toString z) = ⟨(Str.ofString (toString z)).cps⟩ := rfl
    rw [e3, e1, str_cps, String.toList_append, List.map_append]
    have e4 := congrArg Str.cps (ofStr_nat z.natAbs)
    rw [str_cps] at e4
    have e5 : (toString ((z.natAbs : Nat) : Int)).toList.map Char.toNat = Dz01.showNat z.natAbs := congrArg Array.toList e4
    have e6 : toString ((z.natAbs : Nat) : Int) = toString z.natAbs := rfl
    rw [e6] at e5
    rw [e5]
    rfl
  · rw [if_neg h]
    have e : z = ((z.natAbs : Nat) : Int) := by omega
    have k := ofStr_nat z.natAbs
    rw [← e] at k
    exact k
theorem dig_len : ∀ (f n : Nat) (acc : List Nat) (k : Nat), n < 10 ^ (k + 1) → (Dz01.digitsFrom f n acc).length ≤ k + 1 + acc.length
  | 0, _, acc, k, _ => by
    show acc.length ≤ _
    omega
  | f + 1, n, acc, k, h => by
    show (if n / 10 = 0 then (48 + n % 10) :: acc else Dz01.digitsFrom f (n / 10) ((48 + n % 10) :: acc)).length ≤ _
    split
    · rw [List.length_cons]
      omega
    · cases k with
      | zero => omega
      | succ k =>
        have h2 : n / 10 < 10 ^ (k + 1) := by
          rw [Nat.pow_succ] at h
          omega
        have := dig_len f (n / 10) ((48 + n % 10) :: acc) k h2
        rw [List.length_cons] at this
        omega
theorem show_len {n k : Nat} (h : n < 10 ^ (k + 1)) : (Dz01.showNat n).length ≤ k + 1 := dig_len (n + 1) n [] k h
theorem dig_dg : ∀ (f n : Nat) (acc : List Nat), DG acc → DG (Dz01.digitsFrom f n acc)
  | 0, _, _, h => h
  | f + 1, n, acc, h => by
    have d : Dz01.isDigit (48 + n % 10) = true := by
      unfold Dz01.isDigit
      rw [decide_eq_true (by omega), decide_eq_true (by omega)]
      rfl
    show DG (if n / 10 = 0 then (48 + n % 10) :: acc else Dz01.digitsFrom f (n / 10) ((48 + n % 10) :: acc))
    split
    · exact .mk d h
    · exact dig_dg f _ _ (.mk d h)
theorem show_dg (n : Nat) : DG (Dz01.showNat n) := dig_dg (n + 1) n [] fun b hb => by cases hb
theorem padded_len {k n : Nat} (h : n < 10 ^ k) (hk : 0 < k) : (Dz01.padded k n).length = k := by
  unfold Dz01.padded
  have : (Dz01.showNat n).length ≤ k := by
    cases k with
    | zero => exact absurd hk (Nat.lt_irrefl _)
    | succ k => exact show_len h
  dsimp only
  rw [List.length_append, List.length_replicate]
  omega
theorem zfill_txt {l : List Nat} (d : DG l) (k : Nat) : Txt.zfill (txt l) (k : Int) = txt (List.replicate (k - l.length) 48 ++ l) := by
  unfold Txt.zfill
  rw [txt_len]
  by_cases c : (k : Int) ≤ (l.length : Int)
  · rw [if_pos c]
    have : k - l.length = 0 := by omega
    rw [this]
    rfl
  · rw [if_neg c]
    have e1 : ((k : Int).toNat - l.length) = k - l.length := by omega
    rw [e1]
    have e2 : PySem.zfilled (txt l) (k - l.length) = Builtin.Str.padded (txt l) (k - l.length) 0 48 := by
      unfold PySem.zfilled
      have n1 : ∀ b ∈ l, b ≠ 43 := d.ne (by decide)
      have n2 : ∀ b ∈ l, b ≠ 45 := d.ne (by decide)
      have hc : (txt l).cps[0]? = l[0]? := by
        show l.toArray[0]? = _
        rw [List.getElem?_toArray]
      split
      · rename_i h
        rw [hc] at h
        exact absurd rfl (n1 _ (List.mem_of_getElem? h))
      · rename_i h
        rw [hc] at h
        exact absurd rfl (n2 _ (List.mem_of_getElem? h))
      · rfl
    rw [e2]
    show (⟨Array.replicate (k - l.length) 48 ++ l.toArray ++ Array.replicate 0 48⟩ : Str) = ⟨(List.replicate (k - l.length) 48 ++ l).toArray⟩
    have e3 : Array.replicate (k - l.length) 48 = (List.replicate (k - l.length) 48).toArray := by
      rw [List.toArray_replicate]
    have e4 : Array.replicate 0 48 = (#[] : Array Nat) := rfl
    rw [e3, e4, Array.append_empty, List.append_toArray]
theorem s_colon : Str.ofString ":" = txt [58] := by decide +kernel
theorem s_point : Str.ofString "." = txt [46] := by decide +kernel
theorem s_minus : Str.ofString "-" = txt [45] := by decide +kernel
theorem s_plus : Str.ofString "+" = txt [43] := by decide +kernel
theorem s_space : Str.ofString " " = txt [32] := by decide +kernel
theorem s_lf : Str.ofString "\n" = txt [10] := by decide +kernel
theorem s_empty : Str.ofString "" = txt [] := by decide +kernel
theorem log_ok {i : Int} (h : -1000000000000 ≤ i) (k : i ≤ 1000000000000) : i.natAbs.log2 < 1920 := by
  by_cases z : i.natAbs = 0
  · rw [z]
    decide
  · have : i.natAbs.log2 < 60 := (Nat.log2_lt z).mpr (by
      have : (2 : Nat) ^ 60 = 1152921504606846976 := by decide
      omega)
    omega
theorem sc_sign_before : FnScope ["number"] ["number"] (defScope (top 124)) := ⟨rfl, rfl, rfl, by decide +kernel, rfl, by decide +kernel, by decide +kernel⟩
def sgT (n : Int) : List Nat := if n < 0 then [45] else []
theorem has_sign_before (C : Ctx P w K mg base Ts Ct Cs) : Has P w K mg base "sign_before" 1 ["number"] (spF1 (fun _ => True) fun n => .str (txt (sgT n))) := by
  refine has_of C.t.d_sign_before sc_sign_before (fun vs H Q E h => by obtain ⟨a, rfl, _⟩ := h; rfl) (fun _ _ _ _ _ _ us hl => match us, hl with | [_], _ => rfl) fun f cdv A outer s H vs Q E hr h => ⟨_, (pss_cons (ps_if (pt_cmpR op_lt (pv 0) pe_int (nomark _)) (pss_one (ps_ret pe_str)) pss_nil) (pss_one (ps_ret pe_str))), ?_⟩
  obtain ⟨n, rfl, _, q⟩ := h
  have q : Q (.str (txt (if n < 0 then [45] else []))) H := q
  walk_at "rx"
  refine rd_d (fun c => ?_) (fun c => ?_)
  · rw [if_pos c] at q
    walk_at "rx"
    rw [s_minus]
    exact q
  · rw [if_neg c] at q
    walk_at "rx"
    rw [s_empty]
    exact q
theorem sc_digits_of : FnScope ["number", "width"] ["number", "width"] (defScope (top 125)) := ⟨rfl, rfl, rfl, by decide +kernel, rfl, by decide +kernel, by decide +kernel⟩
def spDig : Sp := fun vs H Q _ => ∃ n k : Nat, vs = [.int (n : Int), .int (k : Int)] ∧ n ≤ 1000000000000 ∧ k ≤ 10 ∧ Q (.str (txt (Dz01.padded k n))) H
theorem has_digits_of (C : Ctx P w K mg base Ts Ct Cs) : Has P w K mg base "digits_of" 1 ["number", "width"] spDig := by
  refine has_of C.t.d_digits_of sc_digits_of (fun vs H Q E h => by obtain ⟨a, b, rfl, _⟩ := h; rfl) (fun _ _ _ _ _ _ us hl => match us, hl with | [_, _], _ => rfl) fun f cdv A outer s H vs Q E hr h => ⟨_, (pss_one (ps_ret (pe_bm PySem.F.plainAttrs_str PySem.F.slot_str_zfill PySem.F.type_str_zfill mt_zfill (pe_callTy call_str_int (by rfl) C.t.str_ (by decide +kernel) (pa_cons (pv 0) pa_nil)) (pa_cons (pv 1) pa_nil)))), ?_⟩
  obtain ⟨n, k, rfl, hn, hk, q⟩ := h
  walk_at "rx"
  refine ⟨log_ok (by omega) (by omega), ?_⟩
  rw [ofStr_nat]
  refine ⟨rfl, ?_⟩
  walk_at "rx"
  refine ⟨_, _, rfl, rfl, ?_, ?_⟩
  · unfold PadOk fitsSsize Builtin.Str.tooLong
    have h1 : decide ((k : Int) < -2 ^ 63) = false := decide_eq_false (by omega)
    have h2 : decide ((k : Int) ≥ 2 ^ 63) = false := decide_eq_false (by omega)
    have h3 : decide ((k : Int).toNat > sizeLine) = false := decide_eq_false (by
      have : 10 ≤ sizeLine := by decide
      omega)
    rw [h1, h2, h3]
    rfl
  rw [zfill_txt (show_dg n)]
  exact q
theorem sc_sixtieths : FnScope ["size", "seconds", "hours", "minutes", "rest", "decimals"] ["size"] (defScope (top 126)) := ⟨rfl, rfl, rfl, by decide +kernel, rfl, by decide +kernel, by decide +kernel⟩
def spSix : Sp := fun vs H Q _ => ∃ n : Nat, vs = [.int (n : Int)] ∧ n ≤ 350000000 ∧ Q (.str (txt (Dz01.showSexagesimal n))) H
theorem has_sixtieths (C : Ctx P w K mg base Ts Ct Cs) : Has P w K mg base "sixtieths" 2 ["size"] spSix := by
  refine has_of C.t.d_sixtieths sc_sixtieths (fun vs H Q E h => by obtain ⟨a, rfl, _⟩ := h; rfl) (fun _ _ _ _ _ _ us hl => match us, hl with | [_], _ => rfl) fun f cdv A outer s H vs Q E hr h => ⟨_, (pss_cons (ps_set (i := 1) sc_sixtieths.nd rfl (Or.inl rfl) (pe_op op_fdivW (pv 0) pe_int)) (pss_cons (ps_set (i := 2) sc_sixtieths.nd rfl (Or.inl rfl) (pe_h (has_digits_of C) (hr.mono (by decide)) rfl (pa_cons (pe_op op_fdivW (pv 1) pe_int) (pa_cons pe_int pa_nil)))) (pss_cons (ps_set (i := 3) sc_sixtieths.nd rfl (Or.inl rfl) (pe_h (has_digits_of C) (hr.mono (by decide)) rfl (pa_cons (pe_op op_mod (pe_op op_fdivW (pv 1) pe_int) pe_int) (pa_cons pe_int pa_nil)))) (pss_cons (ps_set (i := 4) sc_sixtieths.nd rfl (Or.inl rfl) (pe_h (has_digits_of C) (hr.mono (by decide)) rfl (pa_cons (pe_op op_mod (pv 1) pe_int) (pa_cons pe_int pa_nil)))) (pss_cons (ps_set (i := 5) sc_sixtieths.nd rfl (Or.inl rfl) (pe_h (has_digits_of C) (hr.mono (by decide)) rfl (pa_cons (pe_op op_mod (pv 0) pe_int) (pa_cons pe_int pa_nil)))) (pss_one (ps_ret (pe_joined (PJ.cons (pe_fmt (pv 2)) (PJ.cons pe_str (PJ.cons (pe_fmt (pv 3)) (PJ.cons pe_str (PJ.cons (pe_fmt (pv 4)) (PJ.cons pe_str (PJ.cons (pe_fmt (pv 5)) PJ.nil))))))))))))))), ?_⟩
  obtain ⟨n, rfl, hn, q⟩ := h
  have e1 : ((n : Int) / 1000 / 3600) = ((n / 3600000 : Nat) : Int) := by omega
  have e2 : ((n : Int) / 1000 / 60 % 60) = ((n / 60000 % 60 : Nat) : Int) := by omega
  have e3 : ((n : Int) / 1000 % 60) = ((n / 1000 % 60 : Nat) : Int) := by omega
  have e4 : ((n : Int) % 1000) = ((n % 1000 : Nat) : Int) := by omega
  have l1 : (Dz01.padded 2 (n / 3600000)).length = 2 := padded_len (by omega) (by decide)
  have l2 : (Dz01.padded 2 (n / 60000 % 60)).length = 2 := padded_len (by omega) (by decide)
  have l3 : (Dz01.padded 2 (n / 1000 % 60)).length = 2 := padded_len (by omega) (by decide)
  have l4 : (Dz01.padded 3 (n % 1000)).length = 3 := padded_len (by omega) (by decide)
  have q : Q (.str (txt (Dz01.padded 2 (n / 3600000) ++ 58 :: Dz01.padded 2 (n / 60000 % 60) ++ 58 :: Dz01.padded 2 (n / 1000 % 60) ++ 46 :: Dz01.padded 3 (n % 1000)))) H := q
  walk_at "rx"
  rw [e1]
  refine ⟨_, 2, rfl, by omega, by decide, ?_⟩
  walk_at "rx"
  rw [e2]
  refine ⟨_, 2, rfl, by omega, by decide, ?_⟩
  walk_at "rx"
  rw [e3]
  refine ⟨_, 2, rfl, by omega, by decide, ?_⟩
  walk_at "rx"
  rw [e4]
  refine ⟨_, 3, rfl, by omega, by decide, ?_⟩
  generalize Dz01.padded 2 (n / 3600000) = A1 at *
  generalize Dz01.padded 2 (n / 60000 % 60) = A2 at *
  generalize Dz01.padded 2 (n / 1000 % 60) = A3 at *
  generalize Dz01.padded 3 (n % 1000) = A4 at *
  have z : ∀ {l : List Nat}, l.length ≤ 20 → (txt l).length ≤ sizeLine := fun h => Nat.le_trans h (by decide)
  have emp : Str.empty = txt [] := rfl
  walk_at "rx"
  rw [emp, s_colon, s_point]
  refine .inl ⟨_, rfl, z (by omega), ?_⟩
  walk_at "rx"
  rw [txt_app]
  refine ⟨z (by rw [List.nil_append]; omega), ?_⟩
  walk_at "rx"
  rw [txt_app]
  refine ⟨z (by simp only [List.length_append, List.length_nil, List.length_singleton]; omega), ?_⟩
  walk_at "rx"
  refine .inl ⟨_, rfl, z (by omega), ?_⟩
  walk_at "rx"
  rw [txt_app]
  refine ⟨z (by simp only [List.length_append, List.length_nil, List.length_singleton]; omega), ?_⟩
  walk_at "rx"
  rw [txt_app]
  refine ⟨z (by simp only [List.length_append, List.length_nil, List.length_singleton]; omega), ?_⟩
  walk_at "rx"
  refine .inl ⟨_, rfl, z (by omega), ?_⟩
  walk_at "rx"
  rw [txt_app]
  refine ⟨z (by simp only [List.length_append, List.length_nil, List.length_singleton]; omega), ?_⟩
  walk_at "rx"
  rw [txt_app]
  refine ⟨z (by simp only [List.length_append, List.length_nil, List.length_singleton]; omega), ?_⟩
  walk_at "rx"
  refine .inl ⟨_, rfl, z (by omega), ?_⟩
  walk_at "rx"
  rw [txt_app]
  refine ⟨z (by simp only [List.length_append, List.length_nil, List.length_singleton]; omega), ?_⟩
  walk_at "rx"
  have ee : [] ++ A1 ++ [58] ++ A2 ++ [58] ++ A3 ++ [46] ++ A4 = A1 ++ 58 :: A2 ++ 58 :: A3 ++ 46 :: A4 := by simp
  rw [ee]
  exact q
theorem sc_declination_text : FnScope ["declination", "sign"] ["declination"] (defScope (top 127)) := ⟨rfl, rfl, rfl, by decide +kernel, rfl, by decide +kernel, by decide +kernel⟩
theorem six_len {n : Nat} (h : n ≤ 350000000) : (Dz01.showSexagesimal n).length = 12 := by
  unfold Dz01.showSexagesimal
  have l1 : (Dz01.padded 2 (n / 3600000)).length = 2 := padded_len (by omega) (by decide)
  have l2 : (Dz01.padded 2 (n / 60000 % 60)).length = 2 := padded_len (by omega) (by decide)
  have l3 : (Dz01.padded 2 (n / 1000 % 60)).length = 2 := padded_len (by omega) (by decide)
  have l4 : (Dz01.padded 3 (n % 1000)).length = 3 := padded_len (by omega) (by decide)
  simp only [List.length_append, List.length_cons]
  omega
theorem has_declination_text (C : Ctx P w K mg base Ts Ct Cs) : Has P w K mg base "declination_text" 3 ["declination"] (spF1 (fun d => Bx 324000000 d) fun d => .str (txt (Dz01.showDec d))) := by
  refine has_of C.t.d_declination_text sc_declination_text (fun vs H Q E h => by obtain ⟨a, rfl, _⟩ := h; rfl) (fun _ _ _ _ _ _ us hl => match us, hl with | [_], _ => rfl) fun f cdv A outer s H vs Q E hr h => ⟨_, (pss_cons (ps_set (i := 1) sc_declination_text.nd rfl (Or.inl rfl) (pe_orT (pe_h (has_sign_before C) (hr.mono (by decide)) rfl (pa_cons (pv 0) pa_nil)) (pe_one pe_str))) (pss_one (ps_ret (pe_op op_add_str (pv 1) (pe_h (has_sixtieths C) (hr.mono (by decide)) rfl (pa_cons (pe_callB call_abs (by rfl) C.t.abs_ (by decide +kernel) (pa_cons (pv 0) pa_nil)) pa_nil)))))), ?_⟩
  obtain ⟨d, rfl, ⟨d0, d1⟩, q⟩ := h
  have q : Q (.str (txt ((if d < 0 then 45 else 43) :: Dz01.showSexagesimal d.natAbs))) H := q
  have l6 := six_len (n := d.natAbs) (by omega)
  have en : (if d < 0 then -d else d) = ((d.natAbs : Nat) : Int) := by
    split <;> omega
  have z : ∀ {l : List Nat}, l.length ≤ 20 → (txt l).length ≤ sizeLine := fun h => Nat.le_trans h (by decide)
  walk_at "rx"
  refine rd_f1 trivial ?_
  unfold sgT
  by_cases c : d < 0
  · rw [if_pos c] at q
    rw [if_pos c]
    refine ⟨true, ⟨z (by decide), rfl⟩, iteT ?_⟩
    walk_at "rx"
    rw [en]
    refine ⟨_, rfl, by omega, ?_⟩
    refine ⟨_, _, rfl, rfl, ?_, ?_⟩
    · rw [txt_len, txt_len, l6]
      decide
    rw [txt_app]
    exact q
  · rw [if_neg c] at q
    rw [if_neg c]
    refine ⟨false, ⟨z (by decide), rfl⟩, iteF ?_⟩
    walk_at "rx"
    rw [en, s_plus]
    refine ⟨_, rfl, by omega, ?_⟩
    refine ⟨_, _, rfl, rfl, ?_, ?_⟩
    · rw [txt_len, txt_len, l6]
      decide
    rw [txt_app]
    exact q
theorem sc_magnitude_text : FnScope ["magnitude", "size"] ["magnitude"] (defScope (top 128)) := ⟨rfl, rfl, rfl, by decide +kernel, rfl, by decide +kernel, by decide +kernel⟩
theorem has_magnitude_text (C : Ctx P w K mg base Ts Ct Cs) : Has P w K mg base "magnitude_text" 2 ["magnitude"] (spF1 (fun d => Bx 99999 d) fun d => .str (txt (Dz01.showMagnitude d))) := by
  refine has_of C.t.d_magnitude_text sc_magnitude_text (fun vs H Q E h => by obtain ⟨a, rfl, _⟩ := h; rfl) (fun _ _ _ _ _ _ us hl => match us, hl with | [_], _ => rfl) fun f cdv A outer s H vs Q E hr h => ⟨_, (pss_cons (ps_set (i := 1) sc_magnitude_text.nd rfl (Or.inl rfl) (pe_callB call_abs (by rfl) C.t.abs_ (by decide +kernel) (pa_cons (pv 0) pa_nil))) (pss_one (ps_ret (pe_op op_add_str (pe_op op_add_str (pe_op op_add_str (pe_h (has_sign_before C) (hr.mono (by decide)) rfl (pa_cons (pv 0) pa_nil)) (pe_callTy call_str_int (by rfl) C.t.str_ (by decide +kernel) (pa_cons (pe_op op_fdivW (pv 1) pe_int) pa_nil))) pe_str) (pe_h (has_digits_of C) (hr.mono (by decide)) rfl (pa_cons (pe_op op_mod (pv 1) pe_int) (pa_cons pe_int pa_nil))))))), ?_⟩
  obtain ⟨d, rfl, ⟨d0, d1⟩, q⟩ := h
  have q : Q (.str (txt (sgT d ++ Dz01.showNat (d.natAbs / 1000) ++ 46 :: Dz01.padded 3 (d.natAbs % 1000)))) H := q
  have en : (if d < 0 then -d else d) = ((d.natAbs : Nat) : Int) := by
    split <;> omega
  have e1 : ((d.natAbs : Nat) : Int) / 1000 = ((d.natAbs / 1000 : Nat) : Int) := by omega
  have e2 : ((d.natAbs : Nat) : Int) % 1000 = ((d.natAbs % 1000 : Nat) : Int) := by omega
  have l0 : (sgT d).length ≤ 1 := by
    unfold sgT
    split <;> decide
  have l1 : (Dz01.showNat (d.natAbs / 1000)).length ≤ 2 := show_len (by omega)
  have l3 : (Dz01.padded 3 (d.natAbs % 1000)).length = 3 := padded_len (by omega) (by decide)
  have z : ∀ {a b : List Nat}, a.length + b.length ≤ 20 → (txt a).length + (txt b).length ≤ sizeLine := fun h => Nat.le_trans h (by decide)
  walk_at "rx"
  rw [en]
  walk_at "rx"
  refine rd_f1 trivial ?_
  walk_at "rx"
  rw [e1]
  refine ⟨log_ok (by omega) (by omega), ?_⟩
  rw [ofStr_nat]
  refine ⟨_, _, rfl, rfl, z (by omega), ?_⟩
  rw [txt_app]
  walk_at "rx"
  rw [s_point]
  refine ⟨_, _, rfl, rfl, z (by simp only [List.length_append, List.length_singleton]; omega), ?_⟩
  rw [txt_app]
  walk_at "rx"
  rw [e2]
  refine ⟨_, 3, rfl, by omega, by decide, ?_⟩
  refine ⟨_, _, rfl, rfl, z (by simp only [List.length_append, List.length_singleton]; omega), ?_⟩
  rw [txt_app]
  have ee : sgT d ++ Dz01.showNat (d.natAbs / 1000) ++ [46] ++ Dz01.padded 3 (d.natAbs % 1000) = sgT d ++ Dz01.showNat (d.natAbs / 1000) ++ 46 :: Dz01.padded 3 (d.natAbs % 1000) := by simp
  rw [ee]
  exact q
end
section
variable {P : Program} {w : World} {K : PySem.W.Frag} {mg : Str → Option Value} {base : Heap} {Ts : List (Addr × Str)} {Ct Cs : Addr}
theorem sc_star_line : FnScope ["star", "numbers", "behind_name", "sign"] ["star"] (defScope (top 129)) := ⟨rfl, rfl, rfl, by decide +kernel, rfl, by decide +kernel, by decide +kernel⟩
/-- a comprehension over a text -/
theorem lc_str {x : Str} {g : TG} {tt : TT} {te : TE} {vs : List Nat} {σ : L2.St} {H1 : Hp} {D : Addr} {Qd : Hp → Prop} (Pv : Nat → Hp → Prop) (h0 : Pv 0 (upd H1 D (HO.lst [])))
    (hs : ∀ (i : Nat) (c : Nat) (H : Hp), x.cps[i]? = some c → Pv i H → g (.str ⟨#[c]⟩) (wipe σ vs) H fun σ2 H2 => wipe σ2 vs = wipe σ vs ∧ tt σ2 H2 fun b H3 =>
        if b = true then te σ2 H3 fun y H4 => ∃ acc, H4 D = some (HO.lst acc) ∧ acc.length < sizeLine ∧ Pv (i + 1) (upd H4 D (HO.lst (acc ++ [y]))) else Pv (i + 1) H3) (hd : ∀ H, Pv x.cps.size H → Qd H) :
    ∃ W : Nat → Nat → Hp → Prop, (∃ m, W 0 m (upd H1 D (HO.lst []))) ∧ ∀ i m H, W i m H →
      ((Its x).stop i H ∧ Qd H) ∨ ((Its x).go i H ∧ ∃ Nx : Hp → Prop, (∀ H', Nx H' → ∃ m', m' < m ∧ W (i + 1) m' H') ∧ ∀ v H', (Its x).yld i H v H' → g v (wipe σ vs) H' fun σ2 H2 => wipe σ2 vs = wipe σ vs ∧ tt σ2 H2 fun b H3 =>
        if b = true then te σ2 H3 fun y H4 => ∃ acc, H4 D = some (HO.lst acc) ∧ acc.length < sizeLine ∧ Nx (upd H4 D (HO.lst (acc ++ [y]))) else Nx H3) := by
  refine ⟨fun i m H => m = x.cps.size - i ∧ i ≤ x.cps.size ∧ Pv i H, ⟨x.cps.size, rfl, Nat.zero_le _, h0⟩, ?_⟩
  rintro i m H ⟨rfl, hi, p⟩
  by_cases hlt : i < x.cps.size
  · refine .inr ⟨hlt, fun H' => Pv (i + 1) H', fun H' z => ⟨x.cps.size - (i + 1), by omega, rfl, hlt, z⟩, ?_⟩
    rintro v H' ⟨rfl, c, hc, rfl⟩
    exact hs i c H' hc p
  · refine .inl ⟨by show x.cps.size ≤ i; omega, ?_⟩
    have e : i = x.cps.size := by omega
    subst e
    exact hd H p
theorem join5 (a b c d e : List Nat) : Txt.join (txt [32]) [txt a, txt b, txt c, txt d, txt e] = txt (a ++ 32 :: (b ++ 32 :: (c ++ 32 :: (d ++ 32 :: e)))) := by
  have e : ((((a.toArray ++ [32].toArray ++ b.toArray) ++ [32].toArray ++ c.toArray) ++ [32].toArray ++ d.toArray) ++ [32].toArray ++ e.toArray) = (a ++ 32 :: (b ++ 32 :: (c ++ 32 :: (d ++ 32 :: e)))).toArray := Array.ext' (by simp)
  exact congrArg Str.mk e
def lineB (x : Dz01.Star) : List Nat := Dz01.showStar x ++ [10]
theorem lineB_eq (x : Dz01.Star) : lineB x = x.name ++ ([32] ++ (Dz01.showRa x.ra ++ 32 :: (Dz01.showDec x.dec ++ 32 :: (Dz01.showMagnitude x.magnitude ++ 32 :: (Dz01.showInt x.motionRa ++ 32 :: Dz01.showInt x.motionDec)))) ++ [10]) := by
  have e : Dz01.showStar x = x.name ++ [32] ++ (Dz01.showRa x.ra ++ [32] ++ (Dz01.showDec x.dec ++ [32] ++ (Dz01.showMagnitude x.magnitude ++ [32] ++ (Dz01.showInt x.motionRa ++ [32] ++ Dz01.showInt x.motionDec)))) := rfl
  unfold lineB
  rw [e]
  simp
theorem int_len {z : Int} (h : Bx 99999 z) : (Dz01.showInt z).length ≤ 6 := by
  obtain ⟨h1, h2⟩ := h
  have := show_len (n := z.natAbs) (k := 4) (by omega)
  unfold Dz01.showInt
  split
  · rw [List.length_cons]
    omega
  · omega
theorem mag_len {d : Int} (h : Bx 99999 d) : (Dz01.showMagnitude d).length ≤ 7 := by
  obtain ⟨h1, h2⟩ := h
  have e : Dz01.showMagnitude d = sgT d ++ Dz01.showNat (d.natAbs / 1000) ++ 46 :: Dz01.padded 3 (d.natAbs % 1000) := rfl
  have l0 : (sgT d).length ≤ 1 := by
    unfold sgT
    split <;> decide
  have l1 : (Dz01.showNat (d.natAbs / 1000)).length ≤ 2 := show_len (by omega)
  have l3 : (Dz01.padded 3 (d.natAbs % 1000)).length = 3 := padded_len (by omega) (by decide)
  rw [e]
  simp only [List.length_append, List.length_cons]
  omega
theorem dec_len {d : Int} (h : Bx 324000000 d) : (Dz01.showDec d).length = 13 := by
  obtain ⟨h1, h2⟩ := h
  have l6 := six_len (n := d.natAbs) (by omega)
  show (_ :: Dz01.showSexagesimal d.natAbs).length = 13
  rw [List.length_cons, l6]
theorem line_len {x : Dz01.Star} (ok : StarOk x) : (lineB x).length ≤ 70 := by
  obtain ⟨⟨r0, r1⟩, hd, hm, h1, h2, hn, _⟩ := ok
  have l1 : (Dz01.showRa x.ra).length = 12 := six_len (n := (x.ra / 15).toNat) (by omega)
  have l2 := dec_len hd
  have l3 := mag_len hm
  have l4 := int_len h1
  have l5 := int_len h2
  rw [lineB_eq]
  simp only [List.length_append, List.length_cons, List.length_nil]
  omega
def spLine (Ts : List (Addr × Str)) (Ct : Addr) : Sp := fun vs H Q _ => ∃ (a : Addr) (x : Dz01.Star), vs = [.ref a] ∧ StarAt Ct H a x ∧ Tabs Ts H ∧ ∀ H' p, Up Ts H H' → Nw H p → H' p = some (.lst (vn (lineB x))) → Q (.ref p) H'
theorem has_star_line (C : Ctx P w K mg base Ts Ct Cs) : Has P w K mg base "star_line" 4 ["star"] (spLine Ts Ct) := by
  refine has_of C.t.d_star_line sc_star_line (fun vs H Q E h => by obtain ⟨a, _, rfl, _⟩ := h; rfl) (fun _ _ _ _ _ _ us hl => match us, hl with | [_], _ => rfl) fun f cdv A outer s H vs Q E hr h => ⟨_, (pss_cons (ps_set (i := 1) sc_star_line.nd rfl (Or.inl rfl) (pe_lst (pa_cons (pe_h (has_sixtieths C) (hr.mono (by decide)) rfl (pa_cons (pe_op op_fdivW (pe_fld (pv 0) rfl) (pe_gi C.t.SECOND_OF_TIME)) pa_nil)) (pa_cons (pe_h (has_declination_text C) (hr.mono (by decide)) rfl (pa_cons (pe_fld (pv 0) rfl) pa_nil)) (pa_cons (pe_h (has_magnitude_text C) (hr.mono (by decide)) rfl (pa_cons (pe_fld (pv 0) rfl) pa_nil)) (pa_cons (pe_callTy call_str_int (by rfl) C.t.str_ (by decide +kernel) (pa_cons (pe_fld (pv 0) rfl) pa_nil)) (pa_cons (pe_callTy call_str_int (by rfl) C.t.str_ (by decide +kernel) (pa_cons (pe_fld (pv 0) rfl) pa_nil)) pa_nil))))))) (pss_cons (ps_set (i := 2) sc_star_line.nd rfl (Or.inl rfl) (pe_op op_add_str (pe_op op_add_str pe_str (pe_join pe_str (pv 1))) pe_str)) (pss_one (ps_ret (pe_op op_cat (pe_fld (pv 0) rfl) (pe_lc (own := [("sign", 3)]) rfl sc_star_line.nd (pi_str (pv 2)) (blkOk_by (N := ["star", "numbers", "behind_name", "sign"]) (sc := defScope (top 129)) (by decide +kernel)) (fun _ _ _ _ _ => (pg_name (i := 3) sc_star_line.nd rfl (Or.inl rfl) )) (fun _ _ _ _ _ => pts_nil) (fun _ _ _ _ _ => (pe_callB call_ord (by rfl) C.t.ord_ (by decide +kernel) (pa_cons (pv 3) pa_nil))))))))), ?_⟩
  obtain ⟨a, x, rfl, sx, tb, q⟩ := h
  obtain ⟨⟨dx, na, ea, en⟩, ok⟩ := id sx
  have ll := line_len ok
  obtain ⟨⟨r0, r1⟩, hd, hm, h1, h2, hn, _⟩ := id ok
  have l1 : (Dz01.showRa x.ra).length = 12 := six_len (n := (x.ra / 15).toNat) (by omega)
  have l2 := dec_len hd
  have l3 := mag_len hm
  have l4 := int_len h1
  have l5 := int_len h2
  have er : x.ra / 15 = (((x.ra / 15).toNat : Nat) : Int) := by omega
  obtain ⟨m10, m11⟩ := id h1
  obtain ⟨m20, m21⟩ := id h2
  walk_at "rx"
  refine ⟨a, Ct, dx, _, _, rfl, ea, C.star.cl, C.star.na _ (by decide), rfl, ?_⟩
  walk_at "rx"
  rw [er]
  refine ⟨_, rfl, by omega, ?_⟩
  have ef : Dz01.showSexagesimal (x.ra / 15).toNat = Dz01.showRa x.ra := rfl
  rw [ef]
  walk_at "rx"
  refine ⟨a, Ct, dx, _, _, rfl, ea, C.star.cl, C.star.na _ (by decide), rfl, ?_⟩
  walk_at "rx"
  refine rd_f1 hd ?_
  walk_at "rx"
  refine ⟨a, Ct, dx, _, _, rfl, ea, C.star.cl, C.star.na _ (by decide), rfl, ?_⟩
  walk_at "rx"
  refine rd_f1 hm ?_
  walk_at "rx"
  refine ⟨a, Ct, dx, _, _, rfl, ea, C.star.cl, C.star.na _ (by decide), rfl, ?_⟩
  walk_at "rx"
  refine ⟨log_ok (by omega) (by omega), ?_⟩
  walk_at "rx"
  refine ⟨a, Ct, dx, _, _, rfl, ea, C.star.cl, C.star.na _ (by decide), rfl, ?_⟩
  walk_at "rx"
  refine ⟨log_ok (by omega) (by omega), ?_⟩
  walk_at "rx"
  rw [ofStr_int, ofStr_int]
  refine ⟨by show 5 ≤ sizeLine; decide, fun p1 hp1 => ?_⟩
  have u1 := Up.new (o := .lst [.str (txt (Dz01.showRa x.ra)), .str (txt (Dz01.showDec x.dec)), .str (txt (Dz01.showMagnitude x.magnitude)), .str (txt (Dz01.showInt x.motionRa)), .str (txt (Dz01.showInt x.motionDec))]) tb hp1
  walk_at "rx"
  rw [s_space, s_lf]
  have z : ∀ {a b : List Nat}, a.length + b.length ≤ 200 → (txt a).length + (txt b).length ≤ sizeLine := fun h => Nat.le_trans h (by decide)
  refine ⟨⟨_, rfl⟩, ?_⟩
  walk_at "rx"
  refine ⟨_, p1, [txt (Dz01.showRa x.ra), txt (Dz01.showDec x.dec), txt (Dz01.showMagnitude x.magnitude), txt (Dz01.showInt x.motionRa), txt (Dz01.showInt x.motionDec)], rfl, rfl, .inl (SqL.of upd_same), ?_, ?_⟩
  · simp only [List.map_cons, List.map_nil, List.sum_cons, List.sum_nil, List.length_cons, List.length_nil, txt_len]
    omega
  rw [join5]
  refine ⟨_, _, rfl, rfl, z (by simp only [List.length_append, List.length_cons, List.length_nil]; omega), ?_⟩
  rw [txt_app]
  walk_at "rx"
  refine ⟨_, _, rfl, rfl, z (by simp only [List.length_append, List.length_cons, List.length_nil]; omega), ?_⟩
  rw [txt_app]
  have el := lineB_eq x
  generalize [32] ++ (Dz01.showRa x.ra ++ 32 :: (Dz01.showDec x.dec ++ 32 :: (Dz01.showMagnitude x.magnitude ++ 32 :: (Dz01.showInt x.motionRa ++ 32 :: Dz01.showInt x.motionDec)))) ++ [10] = B at el ⊢
  have bl : B.length ≤ 70 := by
    rw [el, List.length_append] at ll
    omega
  walk_at "rx"
  refine ⟨a, Ct, dx, _, _, rfl, u1.ins ea, C.star.cl, C.star.na _ (by decide), rfl, ?_⟩
  walk_at "rx"
  refine fun D hD => ?_
  have u2 := u1.new2 (o := .lst []) hD
  have nD := Nw.of hD
  generalize upd H p1 (.lst [.str (txt (Dz01.showRa x.ra)), .str (txt (Dz01.showDec x.dec)), .str (txt (Dz01.showMagnitude x.magnitude)), .str (txt (Dz01.showInt x.motionRa)), .str (txt (Dz01.showInt x.motionDec))]) = H1 at *
  refine lc_str (x := txt B) (fun i H' => H' = upd H1 D (.lst (vn (B.take i)))) rfl ?_ ?_
  · rintro i c H' hc rfl
    have hc' : B[i]? = some c := by
      have k : (txt B).cps[i]? = B[i]? := by
        show B.toArray[i]? = _
        rw [List.getElem?_toArray]
      rw [← k]
      exact hc
    walk_at "rx"
    refine ⟨rfl, ?_⟩
    walk_at "rx"
    refine ⟨⟨#[c]⟩, rfl, rfl, ?_⟩
    refine ⟨_, upd_same, ?_, ?_⟩
    · rw [vn_len]
      exact Nat.lt_of_le_of_lt (Nat.le_trans (List.length_take_le' ..) bl) (show 70 < sizeLine by decide)
    · rw [upd_upd, take_snoc hc', vn_app]
      rfl
  · rintro H' rfl
    have es : (txt B).cps.size = B.length := rfl
    rw [es, List.take_length]
    have u3 := u1.new2 (o := .lst (vn B)) hD
    walk_at "rx"
    refine ⟨na, D, vn x.name, vn B, rfl, rfl, u3.lst en, upd_same, ?_, fun p4 hp4 => ?_⟩
    · rw [vn_len, vn_len]
      exact Nat.le_trans (show x.name.length + B.length ≤ 100 by omega) (by decide)
    · rw [← vn_app, ← el]
      exact q _ p4 (u3.new2 hp4) (Nw.back u3 (Nw.of hp4)) upd_same
theorem sc_written_catalogue : FnScope ["stars", "text", "star"] ["stars"] (defScope (top 130)) := ⟨rfl, rfl, rfl, by decide +kernel, rfl, by decide +kernel, by decide +kernel⟩
theorem cat_eq (ss : List Dz01.Star) : Dz01.showCatalogue ss = ss.flatMap lineB := rfl
def spCat (Ts : List (Addr × Str)) (Ct : Addr) : Sp := fun vs H Q _ => ∃ (a : Addr) (as : List Addr) (ss : List Dz01.Star), vs = [.ref a] ∧ H a = some (.lst (refs as)) ∧ StarsL Ct H as ss ∧ ss.length ≤ 60 ∧ Tabs Ts H ∧ ∀ H' p, Up Ts H H' → Nw H p → H' p = some (.lst (vn (Dz01.showCatalogue ss))) → Q (.ref p) H'
theorem flat_len {ss : List Dz01.Star} (h : ∀ x ∈ ss, StarOk x) : (ss.flatMap lineB).length ≤ 70 * ss.length := by
  induction ss with
  | nil => exact Nat.le_refl _
  | cons x ss ih =>
    rw [List.flatMap_cons, List.length_append, List.length_cons]
    have h1 := line_len (h x (List.mem_cons_self ..))
    have h2 := ih fun y hy => h y (List.mem_cons_of_mem _ hy)
    omega
theorem stars_ok {H : Hp} {as : List Addr} {ss : List Dz01.Star} (h : StarsL Ct H as ss) : ∀ x ∈ ss, StarOk x := fun x hx => by
  obtain ⟨i, e⟩ := List.mem_iff_getElem?.mp hx
  obtain ⟨a, _, _, ok⟩ := h.2 i x e
  exact ok
theorem has_written_catalogue (C : Ctx P w K mg base Ts Ct Cs) : Has P w K mg base "written_catalogue" 5 ["stars"] (spCat Ts Ct) := by
  refine has_of C.t.d_written_catalogue sc_written_catalogue (fun vs H Q E h => by obtain ⟨a, _, _, rfl, _⟩ := h; rfl) (fun _ _ _ _ _ _ us hl => match us, hl with | [_], _ => rfl) fun f cdv A outer s H vs Q E hr h => ⟨_, (pss_cons (ps_set (i := 1) sc_written_catalogue.nd rfl (Or.inl rfl) (pe_lst pa_nil)) (pss_cons (ps_for PassesOwn.never rfl (pi_list (pv 0)) (pg_name (i := 2) sc_written_catalogue.nd rfl (Or.inl rfl)) (pss_one (ps_expr (pe_bm PySem.F.plainAttrs_list PySem.F.slot_list_extend PySem.F.type_list_extend mt_extend (pv 1) (pa_cons (pe_h (has_star_line C) (hr.mono (by decide)) rfl (pa_cons (pv 2) pa_nil)) pa_nil))))) (pss_one (ps_ret (pv 1))))), ?_⟩
  obtain ⟨a, as, ss, rfl, ha, hs, hn, tb, q⟩ := h
  rw [cat_eq] at q
  walk_at "rx"
  refine ⟨by show 0 ≤ sizeLine; decide, fun D hD => ?_⟩
  have nD := Nw.of hD
  have uD := Up.new (o := .lst []) tb hD
  walk_at "rx"
  refine rd_for ?_
  walk_at "rx"
  refine ⟨⟨refs as, SqL.of (uD.lst ha)⟩, for_list (xs := refs as) (fun i σ H' => ∃ v2 : Option V, σ = [some (.ref a), some (.ref D), v2] ∧ Up Ts H H' ∧ H' D = some (.lst (vn ((ss.take i).flatMap lineB)))) ⟨none, rfl, uD, upd_same⟩ ?_ ?_ ?_⟩
  · rintro i σ H' hi ⟨v2, rfl, u, _⟩
    exact SqL.of (u.lst ha)
  · rintro i y σ H' hy ⟨v2, rfl, u, hD'⟩
    have hi : i < ss.length := by
      have := get_lt hy
      rw [refs_len, hs.1] at this
      exact this
    have hx : ss[i]? = some ss[i] := List.getElem?_eq_getElem hi
    generalize ss[i] = x at hx
    obtain ⟨c, hc, sx⟩ := hs.2 i x hx
    rw [refs_get hc] at hy
    cases hy
    have fl := flat_len (ss := ss.take i) fun y hy => stars_ok hs y (List.mem_of_mem_take hy)
    have tl := List.length_take_le' i ss
    have ll := line_len (stars_ok hs x (List.mem_of_getElem? hx))
    walk_at "rx"
    refine ⟨.inl ⟨rfl, _, SqL.of hD'⟩, ?_⟩
    walk_at "rx"
    refine ⟨c, x, rfl, sx.up u, u.2, fun H2 p2 u2 n2 e2 => ?_⟩
    have hD2 := u2.lst hD'
    refine ⟨D, p2, _, _, rfl, rfl, hD2, e2, ?_, ?_⟩
    · rw [vn_len, vn_len]
      exact Nat.le_trans (show _ ≤ 10000 by omega) (by decide)
    · refine ⟨_, rfl, (u.trans u2).mut nD hD2, ?_⟩
      rw [upd_same, take_snoc hx, List.flatMap_append, ← vn_app]
      simp
  · rintro σ H' ⟨v2, rfl, u, hD'⟩
    rw [refs_len, hs.1, List.take_length] at hD'
    walk_at "rx"
    exact q H' D u nD hD'
end
section
variable {P : Program} {w : World} {K : PySem.W.Frag} {mg : Str → Option Value} {base : Heap} {Ts : List (Addr × Str)} {Ct Cs : Addr}
/-! ### the session -/
def outL (o : Dz01.Outcome) : List Int := o.value :: o.fields
def SesAt (X : Addr → Prop) (Ct Cs : Addr) (H : Hp) (sa : Addr) (ss : List Dz01.Star) : Prop := ∃ dx l as, H sa = some (.ins Cs dx [("stars", .ref l)]) ∧ H l = some (.lst (refs as)) ∧ StarsX X Ct H as ss ∧ ss.length ≤ 60 ∧ X l
theorem SesAt.up {X : Addr → Prop} {H H1 : Hp} {sa : Addr} {ss : List Dz01.Star} (h : SesAt X Ct Cs H sa ss) (u : Up Ts H H1) : SesAt X Ct Cs H1 sa ss := by
  obtain ⟨dx, l, as, e1, e2, e3, e4, e5⟩ := h
  exact ⟨dx, l, as, u.ins e1, u.lst e2, e3.up u, e4, e5⟩
section
variable {X : Cx} {m : Str} {Cc : Addr} {k : Nat} {ps : List Str} {sp : Sp} {pos apos : Pos} {o e : Expr} {es : List Expr} {ta : TE} {t : TA} {pl : Sem Bool}
theorem pe_ms (M : HasM X.prog X.w X.K X.mg X.base Cc m k ps sp) (hr : Room k X.A) (ho : PE X o ta) (ha : PA X (e :: es) t) (h1 : starEach (e :: es) X.env = (false, eval e X.env) :: starEach es X.env := by rfl) (h2 : (backTo pos (starEach es X.env)).any (·.1) = false := by rfl)
    (h3 : eval (.Call (.Attribute o m apos) (e :: es) [] pos) X.env = (do
      let ov ← eval o X.env
      standAt apos.atName
      let (f, first) ← holding [ov] (getMethod ov m pl)
      callWith pos f first (backTo pos (starEach (e :: es) X.env)) (backToKw pos (keywordEach [] X.env))) := by rfl) : PE X (.Call (.Attribute o m apos) (e :: es) [] pos) (tMeth Cc m sp [] E0 ta t) := by
  obtain ⟨c, f, fd, Me, F, b⟩ := M
  exact pe_meth ho c Me F hr b .nil pass0 ha h1 h2 h3
theorem pe_ms0 (M : HasM X.prog X.w X.K X.mg X.base Cc m k ps sp) (hr : Room k X.A) (ho : PE X o ta)
    (h3 : eval (.Call (.Attribute o m apos) [] [] pos) X.env = (do
      let ov ← eval o X.env
      standAt apos.atName
      let (f, first) ← holding [ov] (getMethod ov m pl)
      callWith pos f first (backTo pos (starEach [] X.env)) (backToKw pos (keywordEach [] X.env))) := by rfl) : PE X (.Call (.Attribute o m apos) [] [] pos) (tMeth Cc m sp [] E0 ta tNil) := by
  obtain ⟨c, f, fd, Me, F, b⟩ := M
  exact pe_meth0 ho c Me F hr b .nil pass0 h3
end
theorem sc_is_observation : FnScope ["t", "site_longitude", "site_latitude"] ["t", "site_longitude", "site_latitude"] (defScope (top 132)) := ⟨rfl, rfl, rfl, by decide +kernel, rfl, by decide +kernel, by decide +kernel⟩
theorem has_is_observation (C : Ctx P w K mg base Ts Ct Cs) : Has P w K mg base "is_observation" 2 ["t", "site_longitude", "site_latitude"] (spF3 (fun _ _ _ => True) fun t a b => .bl (Dz01.timeOkay t && Dz01.siteOkay ⟨a, b⟩)) := by
  refine has_of C.t.d_is_observation sc_is_observation (fun vs H Q E h => by obtain ⟨a, b, c, rfl, _⟩ := h; rfl) (fun _ _ _ _ _ _ us hl => match us, hl with | [_, _, _], _ => rfl) fun f cdv A outer s H vs Q E hr h => ⟨_, (pss_cons (ps_if (pt_not (pt_val (pe_h (has_is_moment C) (hr.mono (by decide)) rfl (pa_cons (pv 0) pa_nil)))) (pss_one (ps_ret pe_bl)) pss_nil) (pss_one (ps_ret (pe_and (pe_chain op_le op_le (pe_un un_neg (pe_gi C.t.HALF_TURN)) (pv 1) (pe_gi C.t.HALF_TURN)) (pe_one (pe_chain op_le op_le (pe_un un_neg (pe_gi C.t.QUARTER)) (pv 2) (pe_gi C.t.QUARTER))))))), ?_⟩
  obtain ⟨t, a, b, rfl, _, q⟩ := h
  have q : Q (.bl (Dz01.timeOkay t && Dz01.siteOkay ⟨a, b⟩)) H := q
  walk_at "rx"
  refine rd_f1 trivial ?_
  walk_at "rx"
  refine rd_nb (fun c => ?_) (fun c => ?_)
  · rw [c] at q
    walk_at "rx"
    exact q
  rw [c, Bool.true_and] at q
  walk_at "rz"
  have e : Dz01.siteOkay ⟨a, b⟩ = ((decide (-648000000 ≤ a) && decide (a ≤ 648000000)) && (decide (-324000000 ≤ b) && decide (b ≤ 324000000))) := by
    have e0 : Dz01.siteOkay ⟨a, b⟩ = (decide (a.natAbs ≤ 648000000) && decide (b.natAbs ≤ 324000000)) := rfl
    rw [e0]
    congr 1
    · rw [← Bool.decide_and]
      exact decide_eq_decide.mpr (by omega)
    · rw [← Bool.decide_and]
      exact decide_eq_decide.mpr (by omega)
  rw [e] at q
  exact q
theorem sc_is_search : FnScope ["latitude", "radius", "t"] ["latitude", "radius", "t"] (defScope (top 133)) := ⟨rfl, rfl, rfl, by decide +kernel, rfl, by decide +kernel, by decide +kernel⟩
def searchOk (lat radius t : Int) : Bool := Dz01.timeOkay t && ((decide (-324000000 ≤ lat) && decide (lat ≤ 324000000)) && (decide (0 ≤ radius) && decide (radius ≤ 648000000)))
theorem has_is_search (C : Ctx P w K mg base Ts Ct Cs) : Has P w K mg base "is_search" 2 ["latitude", "radius", "t"] (spF3 (fun _ _ _ => True) fun lat radius t => .bl (searchOk lat radius t)) := by
  refine has_of C.t.d_is_search sc_is_search (fun vs H Q E h => by obtain ⟨a, b, c, rfl, _⟩ := h; rfl) (fun _ _ _ _ _ _ us hl => match us, hl with | [_, _, _], _ => rfl) fun f cdv A outer s H vs Q E hr h => ⟨_, (pss_cons (ps_if (pt_not (pt_val (pe_h (has_is_moment C) (hr.mono (by decide)) rfl (pa_cons (pv 2) pa_nil)))) (pss_one (ps_ret pe_bl)) pss_nil) (pss_one (ps_ret (pe_and (pe_chain op_le op_le (pe_un un_neg (pe_gi C.t.QUARTER)) (pv 0) (pe_gi C.t.QUARTER)) (pe_one (pe_chain op_le op_le pe_int (pv 1) (pe_gi C.t.HALF_TURN))))))), ?_⟩
  obtain ⟨lat, radius, t, rfl, _, q⟩ := h
  have q : Q (.bl (Dz01.timeOkay t && ((decide (-324000000 ≤ lat) && decide (lat ≤ 324000000)) && (decide (0 ≤ radius) && decide (radius ≤ 648000000))))) H := q
  walk_at "rx"
  refine rd_f1 trivial ?_
  walk_at "rx"
  refine rd_nb (fun c => ?_) (fun c => ?_)
  · rw [c] at q
    walk_at "rx"
    exact q
  rw [c, Bool.true_and] at q
  walk_at "rz"
  exact q
theorem sc_Session_init : FnScope ["self"] ["self"] (defScope (inClass (top 134) 0)) := ⟨rfl, rfl, rfl, by decide +kernel, rfl, by decide +kernel, by decide +kernel⟩
def spInitSes (Cs : Addr) : Sp := fun vs H Q _ => ∃ (p dx : Addr), vs = [.ref p] ∧ H p = some (.ins Cs dx []) ∧ ∀ l, H l = none → Q .non (upd (upd H l (.lst [])) p (.ins Cs dx [("stars", .ref l)]))
theorem has_Session_init (C : Ctx P w K mg base Ts Ct Cs) : HasI P w K mg base Cs 1 ["self"] (spInitSes Cs) := by
  obtain ⟨f, fd, M, F⟩ := C.ses_init
  refine ⟨f, fd, M, fnok_of F sc_Session_init (fun vs H Q E h => by obtain ⟨_, _, rfl, _⟩ := h; rfl) (fun cdv A outer s H vs Q E hr h => ⟨_, (pss_one (ps_fld (pv 0) (pe_lst pa_nil) rfl)), ?_⟩), F.binds fun _ _ _ _ _ _ us hl => match us, hl with | [_], _ => rfl⟩
  obtain ⟨p, dx, rfl, hp, q⟩ := h
  walk_at "rx"
  refine ⟨by show 0 ≤ sizeLine; decide, fun l hl => ?_⟩
  walk_at "rx"
  exact ⟨p, Cs, dx, [], rfl, by rw [upd_ne (ne_of_none hp hl)]; exact hp, C.ses.cl, C.ses.na _ (by decide), by decide, q l hl⟩
theorem pe_mkSession {X : Cx} {p pos : Pos} (C : Ctx X.prog X.w X.K X.mg X.base Ts Ct Cs) (hr : Room 2 X.A) (hg : Gl X "Session" := by rfl) : PE X (.Call (.Name "Session" p) [] [] pos) (tMake Cs (spInitSes Cs) [] E0 tNil) := by
  obtain ⟨f, fd, M, F, b⟩ := has_Session_init C
  exact pe_make0 M F hr hg C.ses.gl b .nil pass0 (by decide)
/-- a session and some more arguments -/
def SesRet (Ts : List (Addr × Str)) (X : Addr → Prop) (Ct Cs : Addr) (H : Hp) (Q : VK) (sa : Addr) (ss : List Dz01.Star) (c : Dz01.Call) : Prop := SesAt X Ct Cs H sa ss ∧ Tabs Ts H ∧ RetI Ts H Q (outL (Dz01.spec ss c).2)
theorem sc_Session_describe : FnScope ["self", "i", "star", "numbers"] ["self", "i"] (defScope (inClass (top 134) 2)) := ⟨rfl, rfl, rfl, by decide +kernel, rfl, by decide +kernel, by decide +kernel⟩
theorem vi_ints (l : List Nat) : vi (Dz01.ints l) = vn l := by
  unfold vi vn Dz01.ints
  rw [List.map_map]
  rfl
def spDes (Ts : List (Addr × Str)) (Ct Cs : Addr) : Sp := fun vs H Q _ => ∃ (X : Addr → Prop) (sa : Addr) (i : Nat) (ss : List Dz01.Star), vs = [.ref sa, .int (i : Int)] ∧ SesRet Ts X Ct Cs H Q sa ss (.star i)
theorem meth_describe (C : Ctx P w K mg base Ts Ct Cs) : HasM P w K mg base Cs "describe" 1 ["self", "i"] (spDes Ts Ct Cs) := by
  obtain ⟨f, fd, M, F⟩ := C.m_describe
  refine ⟨C.ses.cl, f, fd, M, fnok_of F sc_Session_describe (fun vs H Q E h => by obtain ⟨_, _, _, _, rfl, _⟩ := h; rfl) (fun cdv A outer s H vs Q E hr h => ⟨_, (pss_cons (ps_if (pt_cmpR op_ge (pv 1) (pe_callB call_len_seq (by rfl) C.t.len_ (by decide +kernel) (pa_cons (pe_fld (pv 0) rfl) pa_nil)) (nomark _)) (pss_one (ps_ret (pe_lst (pa_cons (pe_un un_neg (pe_gi C.t.NO_SUCH_STAR)) pa_nil)))) pss_nil) (pss_cons (ps_set (i := 2) sc_Session_describe.nd rfl (Or.inl rfl) (pe_ix ix_list (pe_fld (pv 0) rfl) (pv 1) (fun _ _ => rfl))) (pss_cons (ps_set (i := 3) sc_Session_describe.nd rfl (Or.inl rfl) (pe_lst (pa_cons (pe_fld (pv 2) rfl) (pa_cons (pe_fld (pv 2) rfl) (pa_cons (pe_fld (pv 2) rfl) (pa_cons (pe_fld (pv 2) rfl) (pa_cons (pe_fld (pv 2) rfl) (pa_cons (pe_callB call_len_seq (by rfl) C.t.len_ (by decide +kernel) (pa_cons (pe_fld (pv 2) rfl) pa_nil)) pa_nil)))))))) (pss_one (ps_ret (pe_op op_cat (pv 3) (pe_fld (pv 2) rfl))))))), ?_⟩), F.binds fun _ _ _ _ _ _ us hl => match us, hl with | [_, _], _ => rfl⟩
  obtain ⟨X, sa, i, ss, rfl, ⟨dx, l, as, e1, e2, e3, e4, e5⟩, tb, q⟩ := h
  walk_at "rx"
  refine ⟨sa, Cs, dx, _, _, rfl, e1, C.ses.cl, C.ses.na _ (by decide), rfl, ?_⟩
  walk_at "rx"
  refine ⟨l, refs as, rfl, .inl (SqL.of e2), ?_⟩
  rw [refs_len, e3.1]
  walk_at "rx"
  refine rd_d (fun c => ?_) (fun c => ?_)
  · have es : (Dz01.spec ss (.star i)).2 = ⟨-3, []⟩ := by
      show (match ss[i]? with
        | none => (ss, Dz01.failed (-3))
        | some x => (ss, ⟨x.ra, [x.dec, x.magnitude, x.motionRa, x.motionDec, (x.name.length : Int)] ++ Dz01.ints x.name⟩)).2 = _
      rw [List.getElem?_eq_none (by omega)]
      rfl
    rw [es] at q
    walk_at "rx"
    exact ⟨by show 1 ≤ sizeLine; decide, q.lst (Up.refl tb) rfl⟩
  have hi : i < ss.length := by omega
  have hx : ss[i]? = some ss[i] := List.getElem?_eq_getElem hi
  generalize ss[i] = x at hx
  obtain ⟨a, dy, na, ha, ea, en, hX, ok⟩ := e3.2 i x hx
  have es : (Dz01.spec ss (.star i)).2 = ⟨x.ra, [x.dec, x.magnitude, x.motionRa, x.motionDec, (x.name.length : Int)] ++ Dz01.ints x.name⟩ := by
    show (match ss[i]? with
      | none => (ss, Dz01.failed (-3))
      | some x => (ss, ⟨x.ra, [x.dec, x.magnitude, x.motionRa, x.motionDec, (x.name.length : Int)] ++ Dz01.ints x.name⟩)).2 = _
    rw [hx]
  rw [es] at q
  walk_at "rx"
  refine ⟨sa, Cs, dx, _, _, rfl, e1, C.ses.cl, C.ses.na _ (by decide), rfl, ?_⟩
  walk_at "rx"
  refine ⟨l, refs as, i, _, rfl, rfl, SqL.of e2, at_of (j := i) rfl (refs_get ha), ?_⟩
  walk_at "rx"
  refine ⟨a, Ct, dy, _, _, rfl, ea, C.star.cl, C.star.na _ (by decide), rfl, ?_⟩
  walk_at "rx"
  refine ⟨a, Ct, dy, _, _, rfl, ea, C.star.cl, C.star.na _ (by decide), rfl, ?_⟩
  walk_at "rx"
  refine ⟨a, Ct, dy, _, _, rfl, ea, C.star.cl, C.star.na _ (by decide), rfl, ?_⟩
  walk_at "rx"
  refine ⟨a, Ct, dy, _, _, rfl, ea, C.star.cl, C.star.na _ (by decide), rfl, ?_⟩
  walk_at "rx"
  refine ⟨a, Ct, dy, _, _, rfl, ea, C.star.cl, C.star.na _ (by decide), rfl, ?_⟩
  walk_at "rx"
  refine ⟨a, Ct, dy, _, _, rfl, ea, C.star.cl, C.star.na _ (by decide), rfl, ?_⟩
  walk_at "rx"
  refine ⟨na, vn x.name, rfl, .inl (SqL.of en), ?_⟩
  rw [vn_len]
  walk_at "rx"
  refine ⟨by show 6 ≤ sizeLine; decide, fun p hp => ?_⟩
  walk_at "rx"
  have u1 := Up.new (o := .lst [.int x.ra, .int x.dec, .int x.magnitude, .int x.motionRa, .int x.motionDec, .int (x.name.length : Nat)]) tb hp
  refine ⟨a, Ct, dy, _, _, rfl, u1.ins ea, C.star.cl, C.star.na _ (by decide), rfl, ?_⟩
  walk_at "rx"
  refine ⟨p, na, _, _, rfl, rfl, upd_same, u1.lst en, ?_, ?_⟩
  · rw [vn_len]
    exact Nat.le_trans (show 6 + x.name.length ≤ 20 by have := ok.2.2.2.2.2.1; omega) (by decide)
  · refine q.lst u1 ?_
    show _ = vi ([x.ra, x.dec, x.magnitude, x.motionRa, x.motionDec, (x.name.length : Int)] ++ Dz01.ints x.name)
    rw [vi_snoc_map, vi_ints]
    rfl
theorem sc_Session_search_name : FnScope ["self", "name", "i"] ["self", "name"] (defScope (inClass (top 134) 3)) := ⟨rfl, rfl, rfl, by decide +kernel, rfl, by decide +kernel, by decide +kernel⟩
def spFind (Ts : List (Addr × Str)) (Ct Cs : Addr) : Sp := fun vs H Q _ => ∃ (X : Addr → Prop) (sa n : Addr) (nm : List Nat) (ss : List Dz01.Star), vs = [.ref sa, .ref n] ∧ H n = some (.lst (vn nm)) ∧ SesRet Ts X Ct Cs H Q sa ss (.find nm)
theorem meth_search_name (C : Ctx P w K mg base Ts Ct Cs) : HasM P w K mg base Cs "search_name" 2 ["self", "name"] (spFind Ts Ct Cs) := by
  obtain ⟨f, fd, M, F⟩ := C.m_search_name
  refine ⟨C.ses.cl, f, fd, M, fnok_of F sc_Session_search_name (fun vs H Q E h => by obtain ⟨_, _, _, _, _, rfl, _⟩ := h; rfl) (fun cdv A outer s H vs Q E hr h => ⟨_, (pss_cons (ps_set (i := 2) sc_Session_search_name.nd rfl (Or.inl rfl) (pe_h (has_index_of_name C) (hr.mono (by decide)) rfl (pa_cons (pe_fld (pv 0) rfl) (pa_cons (pv 1) pa_nil)))) (pss_cons (ps_if (pt_cmpR op_isN (pv 2) pe_non (nomark _)) (pss_one (ps_ret (pe_lst (pa_cons (pe_un un_neg (pe_gi C.t.NO_SUCH_STAR)) pa_nil)))) pss_nil) (pss_one (ps_ret (pe_lst (pa_cons (pv 2) pa_nil)))))), ?_⟩), F.binds fun _ _ _ _ _ _ us hl => match us, hl with | [_, _], _ => rfl⟩
  obtain ⟨X, sa, n, nm, ss, rfl, hn, ⟨dx, l, as, e1, e2, e3, e4, e5⟩, tb, q⟩ := h
  walk_at "rx"
  refine ⟨sa, Cs, dx, _, _, rfl, e1, C.ses.cl, C.ses.na _ (by decide), rfl, ?_⟩
  walk_at "rx"
  refine ⟨l, n, as, ss, nm, rfl, e2, e3.toL, hn, tb, fun H1 u1 => ?_⟩
  walk_at "rx"
  refine ⟨rfl, ?_⟩
  walk_at "rx"
  have es : (Dz01.spec ss (.find nm)).2 = match ss.findIdx? fun x : Dz01.Star => x.name == nm with
    | none => ⟨-3, []⟩
    | some i => ⟨(i : Int), []⟩ := by
    show (match ss.findIdx? fun x : Dz01.Star => x.name == nm with
      | none => (ss, Dz01.failed (-3))
      | some i => (ss, ⟨(i : Int), []⟩)).2 = _
    cases ss.findIdx? (fun x : Dz01.Star => x.name == nm) <;> rfl
  rw [es] at q
  unfold ixV
  cases e : ss.findIdx? (fun x : Dz01.Star => x.name == nm) with
  | none =>
    rw [e] at q
    refine rd_d (fun c => ?_) (fun c => absurd rfl c)
    walk_at "rx"
    exact ⟨by show 1 ≤ sizeLine; decide, q.lst u1 rfl⟩
  | some i =>
    rw [e] at q
    refine rd_d (fun c => by cases c) (fun c => ?_)
    walk_at "rx"
    exact ⟨by show 1 ≤ sizeLine; decide, q.lst u1 rfl⟩
theorem sc_Session_export : FnScope ["self", "text"] ["self"] (defScope (inClass (top 134) 4)) := ⟨rfl, rfl, rfl, by decide +kernel, rfl, by decide +kernel, by decide +kernel⟩
def spExp (Ts : List (Addr × Str)) (Ct Cs : Addr) : Sp := fun vs H Q _ => ∃ (X : Addr → Prop) (sa : Addr) (ss : List Dz01.Star), vs = [.ref sa] ∧ SesRet Ts X Ct Cs H Q sa ss .export_
theorem meth_export (C : Ctx P w K mg base Ts Ct Cs) : HasM P w K mg base Cs "export" 6 ["self"] (spExp Ts Ct Cs) := by
  obtain ⟨f, fd, M, F⟩ := C.m_export
  refine ⟨C.ses.cl, f, fd, M, fnok_of F sc_Session_export (fun vs H Q E h => by obtain ⟨_, _, _, rfl, _⟩ := h; rfl) (fun cdv A outer s H vs Q E hr h => ⟨_, (pss_cons (ps_set (i := 1) sc_Session_export.nd rfl (Or.inl rfl) (pe_h (has_written_catalogue C) (hr.mono (by decide)) rfl (pa_cons (pe_fld (pv 0) rfl) pa_nil))) (pss_one (ps_ret (pe_op op_cat (pe_lst (pa_cons (pe_callB call_len_seq (by rfl) C.t.len_ (by decide +kernel) (pa_cons (pv 1) pa_nil)) pa_nil)) (pv 1))))), ?_⟩), F.binds fun _ _ _ _ _ _ us hl => match us, hl with | [_], _ => rfl⟩
  obtain ⟨X, sa, ss, rfl, ⟨dx, l, as, e1, e2, e3, e4, e5⟩, tb, q⟩ := h
  have fl := flat_len (stars_ok e3.toL)
  rw [← cat_eq] at fl
  walk_at "rx"
  refine ⟨sa, Cs, dx, _, _, rfl, e1, C.ses.cl, C.ses.na _ (by decide), rfl, ?_⟩
  walk_at "rx"
  refine ⟨l, as, ss, rfl, e2, e3.toL, e4, tb, fun H1 p1 u1 n1 hp1 => ?_⟩
  walk_at "rx"
  refine ⟨p1, _, rfl, .inl (SqL.of hp1), ?_⟩
  rw [vn_len]
  walk_at "rx"
  refine ⟨by show 1 ≤ sizeLine; decide, fun p2 hp2 => ?_⟩
  have u2 := u1.new2 (o := .lst [.int ((Dz01.showCatalogue ss).length : Nat)]) hp2
  walk_at "rx"
  refine ⟨p2, p1, _, _, rfl, rfl, upd_same, by rw [upd_ne (ne_of_none hp1 hp2)]; exact hp1, ?_, ?_⟩
  · rw [vn_len]
    exact Nat.le_trans (show 1 + _ ≤ 10000 by omega) (by decide)
  · refine q.lst u2 ?_
    show _ = vi ([((Dz01.showCatalogue ss).length : Int)] ++ Dz01.ints (Dz01.showCatalogue ss))
    rw [vi_snoc_map, vi_ints]
    rfl
end
section
variable {P : Program} {w : World} {K : PySem.W.Frag} {mg : Str → Option Value} {base : Heap} {Ts : List (Addr × Str)} {Ct Cs : Addr}
theorem spec_none {ss : List Dz01.Star} {i : Nat} (h : ss[i]? = none) (t : Int) (g : Dz01.Site) : (Dz01.spec ss (.place i t)).2 = ⟨-3, []⟩ ∧ (Dz01.spec ss (.horizon i t g)).2 = ⟨-3, []⟩ ∧ (Dz01.spec ss (.ecliptic i t)).2 = ⟨-3, []⟩ := by
  refine ⟨?_, ?_, ?_⟩
  · show (match ss[i]? with
      | none => (ss, Dz01.failed (-3))
      | some x => (ss, if Dz01.timeOkay t = false then Dz01.failed (-2) else Dz01.two (Dz01.lonLat (Dz01.place x t)))).2 = _
    rw [h]
    rfl
  · show (match ss[i]? with
      | none => (ss, Dz01.failed (-3))
      | some x => (ss, if Dz01.timeOkay t = false ∨ Dz01.siteOkay g = false then Dz01.failed (-2) else Dz01.two (Dz01.azimuthAltitude g t (Dz01.place x t)))).2 = _
    rw [h]
    rfl
  · show (match ss[i]? with
      | none => (ss, Dz01.failed (-3))
      | some x => (ss, if Dz01.timeOkay t = false then Dz01.failed (-2) else Dz01.two (Dz01.lonLat (Dz01.toEcliptic (Dz01.place x t))))).2 = _
    rw [h]
    rfl
theorem spec_some {ss : List Dz01.Star} {i : Nat} {x : Dz01.Star} (h : ss[i]? = some x) (t : Int) (g : Dz01.Site) : (Dz01.spec ss (.place i t)).2 = (if Dz01.timeOkay t = false then Dz01.failed (-2) else Dz01.two (Dz01.lonLat (Dz01.place x t))) ∧ (Dz01.spec ss (.horizon i t g)).2 = (if Dz01.timeOkay t = false ∨ Dz01.siteOkay g = false then Dz01.failed (-2) else Dz01.two (Dz01.azimuthAltitude g t (Dz01.place x t))) ∧ (Dz01.spec ss (.ecliptic i t)).2 = (if Dz01.timeOkay t = false then Dz01.failed (-2) else Dz01.two (Dz01.lonLat (Dz01.toEcliptic (Dz01.place x t)))) := by
  refine ⟨?_, ?_, ?_⟩
  · show (match ss[i]? with
      | none => (ss, Dz01.failed (-3))
      | some x => (ss, if Dz01.timeOkay t = false then Dz01.failed (-2) else Dz01.two (Dz01.lonLat (Dz01.place x t)))).2 = _
    rw [h]
  · show (match ss[i]? with
      | none => (ss, Dz01.failed (-3))
      | some x => (ss, if Dz01.timeOkay t = false ∨ Dz01.siteOkay g = false then Dz01.failed (-2) else Dz01.two (Dz01.azimuthAltitude g t (Dz01.place x t)))).2 = _
    rw [h]
  · show (match ss[i]? with
      | none => (ss, Dz01.failed (-3))
      | some x => (ss, if Dz01.timeOkay t = false then Dz01.failed (-2) else Dz01.two (Dz01.lonLat (Dz01.toEcliptic (Dz01.place x t))))).2 = _
    rw [h]
theorem sc_Session_place : FnScope ["self", "i", "t"] ["self", "i", "t"] (defScope (inClass (top 134) 5)) := ⟨rfl, rfl, rfl, by decide +kernel, rfl, by decide +kernel, by decide +kernel⟩
def spPl (Ts : List (Addr × Str)) (Ct Cs : Addr) (f : Nat → Int → Dz01.Call) : Sp := fun vs H Q _ => ∃ (X : Addr → Prop) (sa : Addr) (i : Nat) (t : Int) (ss : List Dz01.Star), vs = [.ref sa, .int (i : Int), .int t] ∧ SesRet Ts X Ct Cs H Q sa ss (f i t)
theorem meth_place (C : Ctx P w K mg base Ts Ct Cs) : HasM P w K mg base Cs "place" 11 ["self", "i", "t"] (spPl Ts Ct Cs fun i t => .place i t) := by
  obtain ⟨f, fd, M, F⟩ := C.m_place
  refine ⟨C.ses.cl, f, fd, M, fnok_of F sc_Session_place (fun vs H Q E h => by obtain ⟨_, _, _, _, _, rfl, _⟩ := h; rfl) (fun cdv A outer s H vs Q E hr h => ⟨_, (pss_cons (ps_if (pt_cmpR op_ge (pv 1) (pe_callB call_len_seq (by rfl) C.t.len_ (by decide +kernel) (pa_cons (pe_fld (pv 0) rfl) pa_nil)) (nomark _)) (pss_one (ps_ret (pe_lst (pa_cons (pe_un un_neg (pe_gi C.t.NO_SUCH_STAR)) pa_nil)))) pss_nil) (pss_cons (ps_if (pt_not (pt_val (pe_h (has_is_moment C) (hr.mono (by decide)) rfl (pa_cons (pv 2) pa_nil)))) (pss_one (ps_ret (pe_lst (pa_cons (pe_un un_neg (pe_gi C.t.OUT_OF_RANGE)) pa_nil)))) pss_nil) (pss_one (ps_ret (pe_h (has_longitude_and_latitude C) (hr.mono (by decide)) rfl (pa_cons (pe_h (has_place_vector C) (hr.mono (by decide)) rfl (pa_cons (pe_ix ix_list (pe_fld (pv 0) rfl) (pv 1) (fun _ _ => rfl)) (pa_cons (pv 2) pa_nil))) pa_nil)))))), ?_⟩), F.binds fun _ _ _ _ _ _ us hl => match us, hl with | [_, _, _], _ => rfl⟩
  obtain ⟨X, sa, i, t, ss, rfl, ⟨dx, l, as, e1, e2, e3, e4, e5⟩, tb, q⟩ := h
  walk_at "rx"
  refine ⟨sa, Cs, dx, _, _, rfl, e1, C.ses.cl, C.ses.na _ (by decide), rfl, ?_⟩
  walk_at "rx"
  refine ⟨l, refs as, rfl, .inl (SqL.of e2), ?_⟩
  rw [refs_len, e3.1]
  walk_at "rx"
  refine rd_d (fun c => ?_) (fun c => ?_)
  · rw [(spec_none (List.getElem?_eq_none (by omega)) t ⟨0, 0⟩).1] at q
    walk_at "rx"
    exact ⟨by show 1 ≤ sizeLine; decide, q.lst (Up.refl tb) rfl⟩
  have hi : i < ss.length := by omega
  have hx : ss[i]? = some ss[i] := List.getElem?_eq_getElem hi
  generalize ss[i] = x at hx
  obtain ⟨a, ha, sx⟩ := e3.toL.2 i x hx
  rw [(spec_some hx t ⟨0, 0⟩).1] at q
  walk_at "rx"
  refine rd_f1 trivial ?_
  walk_at "rx"
  refine rd_nb (fun c => ?_) (fun c => ?_)
  · rw [if_pos c] at q
    walk_at "rx"
    exact ⟨by show 1 ≤ sizeLine; decide, q.lst (Up.refl tb) rfl⟩
  rw [if_neg (by rw [c]; decide)] at q
  walk_at "rx"
  refine ⟨sa, Cs, dx, _, _, rfl, e1, C.ses.cl, C.ses.na _ (by decide), rfl, ?_⟩
  walk_at "rx"
  refine ⟨l, refs as, i, _, rfl, rfl, SqL.of e2, at_of (j := i) rfl (refs_get ha), ?_⟩
  walk_at "rx"
  refine ⟨a, x, t, rfl, sx, time_t c, tb, fun H1 p1 u1 hp1 => ?_⟩
  walk_at "rx"
  exact ⟨.ref p1, _, rfl, ⟨p1, rfl, hp1, (place_vb x t).mono (by decide)⟩, u1.2, fun H2 p2 u2 n2 hp2 => q H2 p2 (u1.trans u2) (Nw.back u1 n2) hp2⟩
theorem sc_Session_ecliptic : FnScope ["self", "i", "t"] ["self", "i", "t"] (defScope (inClass (top 134) 7)) := ⟨rfl, rfl, rfl, by decide +kernel, rfl, by decide +kernel, by decide +kernel⟩
theorem ecl_vb (x : Dz01.Star) (t : Int) : VB (10 ^ 36) (Dz01.toEcliptic (Dz01.place x t)) := (rotX_vb (-Dz01.OBLIQUITY) (place_vb x t) (by decide)).mono (by decide)
theorem meth_ecliptic (C : Ctx P w K mg base Ts Ct Cs) : HasM P w K mg base Cs "ecliptic" 11 ["self", "i", "t"] (spPl Ts Ct Cs fun i t => .ecliptic i t) := by
  obtain ⟨f, fd, M, F⟩ := C.m_ecliptic
  refine ⟨C.ses.cl, f, fd, M, fnok_of F sc_Session_ecliptic (fun vs H Q E h => by obtain ⟨_, _, _, _, _, rfl, _⟩ := h; rfl) (fun cdv A outer s H vs Q E hr h => ⟨_, (pss_cons (ps_if (pt_cmpR op_ge (pv 1) (pe_callB call_len_seq (by rfl) C.t.len_ (by decide +kernel) (pa_cons (pe_fld (pv 0) rfl) pa_nil)) (nomark _)) (pss_one (ps_ret (pe_lst (pa_cons (pe_un un_neg (pe_gi C.t.NO_SUCH_STAR)) pa_nil)))) pss_nil) (pss_cons (ps_if (pt_not (pt_val (pe_h (has_is_moment C) (hr.mono (by decide)) rfl (pa_cons (pv 2) pa_nil)))) (pss_one (ps_ret (pe_lst (pa_cons (pe_un un_neg (pe_gi C.t.OUT_OF_RANGE)) pa_nil)))) pss_nil) (pss_one (ps_ret (pe_h (has_longitude_and_latitude C) (hr.mono (by decide)) rfl (pa_cons (pe_h (has_ecliptic_vector C) (hr.mono (by decide)) rfl (pa_cons (pe_h (has_place_vector C) (hr.mono (by decide)) rfl (pa_cons (pe_ix ix_list (pe_fld (pv 0) rfl) (pv 1) (fun _ _ => rfl)) (pa_cons (pv 2) pa_nil))) pa_nil)) pa_nil)))))), ?_⟩), F.binds fun _ _ _ _ _ _ us hl => match us, hl with | [_, _, _], _ => rfl⟩
  obtain ⟨X, sa, i, t, ss, rfl, ⟨dx, l, as, e1, e2, e3, e4, e5⟩, tb, q⟩ := h
  walk_at "rx"
  refine ⟨sa, Cs, dx, _, _, rfl, e1, C.ses.cl, C.ses.na _ (by decide), rfl, ?_⟩
  walk_at "rx"
  refine ⟨l, refs as, rfl, .inl (SqL.of e2), ?_⟩
  rw [refs_len, e3.1]
  walk_at "rx"
  refine rd_d (fun c => ?_) (fun c => ?_)
  · rw [(spec_none (List.getElem?_eq_none (by omega)) t ⟨0, 0⟩).2.2] at q
    walk_at "rx"
    exact ⟨by show 1 ≤ sizeLine; decide, q.lst (Up.refl tb) rfl⟩
  have hi : i < ss.length := by omega
  have hx : ss[i]? = some ss[i] := List.getElem?_eq_getElem hi
  generalize ss[i] = x at hx
  obtain ⟨a, ha, sx⟩ := e3.toL.2 i x hx
  rw [(spec_some hx t ⟨0, 0⟩).2.2] at q
  walk_at "rx"
  refine rd_f1 trivial ?_
  walk_at "rx"
  refine rd_nb (fun c => ?_) (fun c => ?_)
  · rw [if_pos c] at q
    walk_at "rx"
    exact ⟨by show 1 ≤ sizeLine; decide, q.lst (Up.refl tb) rfl⟩
  rw [if_neg (by rw [c]; decide)] at q
  walk_at "rx"
  refine ⟨sa, Cs, dx, _, _, rfl, e1, C.ses.cl, C.ses.na _ (by decide), rfl, ?_⟩
  walk_at "rx"
  refine ⟨l, refs as, i, _, rfl, rfl, SqL.of e2, at_of (j := i) rfl (refs_get ha), ?_⟩
  walk_at "rx"
  refine ⟨a, x, t, rfl, sx, time_t c, tb, fun H1 p1 u1 hp1 => ?_⟩
  walk_at "rx"
  refine ⟨.ref p1, _, rfl, ⟨p1, rfl, hp1, place_vb x t⟩, u1.2, fun H2 p2 u2 hp2 => ?_⟩
  walk_at "rx"
  exact ⟨.ref p2, _, rfl, ⟨p2, rfl, hp2, ecl_vb x t⟩, u2.2, fun H3 p3 u3 n3 hp3 => q H3 p3 ((u1.trans u2).trans u3) (Nw.back (u1.trans u2) n3) hp3⟩
theorem sc_Session_horizon : FnScope ["self", "i", "t", "site_longitude", "site_latitude", "vector"] ["self", "i", "t", "site_longitude", "site_latitude"] (defScope (inClass (top 134) 6)) := ⟨rfl, rfl, rfl, by decide +kernel, rfl, by decide +kernel, by decide +kernel⟩
theorem hor_vb (x : Dz01.Star) (t : Int) (g : Dz01.Site) : VB (10 ^ 36) (Dz01.toHorizon g t (Dz01.place x t)) := by
  have h := rotZ_vb (-(Dz01.siderealTime t + g.lon)) (place_vb x t) (by decide)
  have a := rot_bx g.lat h.2.2 h.1 (by decide)
  have b := rot_bx g.lat h.1 h.2.2 (by decide)
  have hh : VB (2 * (2 * 10 ^ 20)) (Dz01.toHorizon g t (Dz01.place x t)) := ⟨a.1, bx2 h.2.1 (by decide), b.2.2⟩
  exact hh.mono (by decide)
def spHz (Ts : List (Addr × Str)) (Ct Cs : Addr) : Sp := fun vs H Q _ => ∃ (X : Addr → Prop) (sa : Addr) (i : Nat) (t lon lat : Int) (ss : List Dz01.Star), vs = [.ref sa, .int (i : Int), .int t, .int lon, .int lat] ∧ SesRet Ts X Ct Cs H Q sa ss (.horizon i t ⟨lon, lat⟩)
theorem meth_horizon (C : Ctx P w K mg base Ts Ct Cs) : HasM P w K mg base Cs "horizon" 11 ["self", "i", "t", "site_longitude", "site_latitude"] (spHz Ts Ct Cs) := by
  obtain ⟨f, fd, M, F⟩ := C.m_horizon
  refine ⟨C.ses.cl, f, fd, M, fnok_of F sc_Session_horizon (fun vs H Q E h => by obtain ⟨_, _, _, _, _, _, _, rfl, _⟩ := h; rfl) (fun cdv A outer s H vs Q E hr h => ⟨_, (pss_cons (ps_if (pt_cmpR op_ge (pv 1) (pe_callB call_len_seq (by rfl) C.t.len_ (by decide +kernel) (pa_cons (pe_fld (pv 0) rfl) pa_nil)) (nomark _)) (pss_one (ps_ret (pe_lst (pa_cons (pe_un un_neg (pe_gi C.t.NO_SUCH_STAR)) pa_nil)))) pss_nil) (pss_cons (ps_if (pt_not (pt_val (pe_h (has_is_observation C) (hr.mono (by decide)) rfl (pa_cons (pv 2) (pa_cons (pv 3) (pa_cons (pv 4) pa_nil)))))) (pss_one (ps_ret (pe_lst (pa_cons (pe_un un_neg (pe_gi C.t.OUT_OF_RANGE)) pa_nil)))) pss_nil) (pss_cons (ps_set (i := 5) sc_Session_horizon.nd rfl (Or.inl rfl) (pe_h (has_place_vector C) (hr.mono (by decide)) rfl (pa_cons (pe_ix ix_list (pe_fld (pv 0) rfl) (pv 1) (fun _ _ => rfl)) (pa_cons (pv 2) pa_nil)))) (pss_one (ps_ret (pe_h (has_longitude_and_latitude C) (hr.mono (by decide)) rfl (pa_cons (pe_h (has_horizontal_vector C) (hr.mono (by decide)) rfl (pa_cons (pv 5) (pa_cons (pv 2) (pa_cons (pv 3) (pa_cons (pv 4) pa_nil))))) pa_nil))))))), ?_⟩), F.binds fun _ _ _ _ _ _ us hl => match us, hl with | [_, _, _, _, _], _ => rfl⟩
  obtain ⟨X, sa, i, t, lon, lat, ss, rfl, ⟨dx, l, as, e1, e2, e3, e4, e5⟩, tb, q⟩ := h
  walk_at "rx"
  refine ⟨sa, Cs, dx, _, _, rfl, e1, C.ses.cl, C.ses.na _ (by decide), rfl, ?_⟩
  walk_at "rx"
  refine ⟨l, refs as, rfl, .inl (SqL.of e2), ?_⟩
  rw [refs_len, e3.1]
  walk_at "rx"
  refine rd_d (fun c => ?_) (fun c => ?_)
  · rw [(spec_none (List.getElem?_eq_none (by omega)) t ⟨lon, lat⟩).2.1] at q
    walk_at "rx"
    exact ⟨by show 1 ≤ sizeLine; decide, q.lst (Up.refl tb) rfl⟩
  have hi : i < ss.length := by omega
  have hx : ss[i]? = some ss[i] := List.getElem?_eq_getElem hi
  generalize ss[i] = x at hx
  obtain ⟨a, ha, sx⟩ := e3.toL.2 i x hx
  rw [(spec_some hx t ⟨lon, lat⟩).2.1] at q
  walk_at "rx"
  refine rd_f3 trivial ?_
  walk_at "rx"
  refine rd_nb (fun c => ?_) (fun c => ?_)
  · have c' : Dz01.timeOkay t = false ∨ Dz01.siteOkay ⟨lon, lat⟩ = false := by
      rw [Bool.and_eq_false_iff] at c
      exact c
    rw [if_pos c'] at q
    walk_at "rx"
    exact ⟨by show 1 ≤ sizeLine; decide, q.lst (Up.refl tb) rfl⟩
  rw [Bool.and_eq_true] at c
  rw [if_neg (by rw [c.1, c.2]; decide)] at q
  walk_at "rx"
  refine ⟨sa, Cs, dx, _, _, rfl, e1, C.ses.cl, C.ses.na _ (by decide), rfl, ?_⟩
  walk_at "rx"
  refine ⟨l, refs as, i, _, rfl, rfl, SqL.of e2, at_of (j := i) rfl (refs_get ha), ?_⟩
  walk_at "rx"
  refine ⟨a, x, t, rfl, sx, time_t c.1, tb, fun H1 p1 u1 hp1 => ?_⟩
  walk_at "rx"
  refine ⟨.ref p1, _, t, lon, lat, rfl, ⟨p1, rfl, hp1, place_vb x t⟩, time_t c.1, u1.2, fun H2 p2 u2 hp2 => ?_⟩
  walk_at "rx"
  exact ⟨.ref p2, _, rfl, ⟨p2, rfl, hp2, hor_vb x t _⟩, u2.2, fun H3 p3 u3 n3 hp3 => q H3 p3 ((u1.trans u2).trans u3) (Nw.back (u1.trans u2) n3) hp3⟩
theorem sc_Session_separation : FnScope ["self", "i", "j", "t", "first", "second"] ["self", "i", "j", "t"] (defScope (inClass (top 134) 8)) := ⟨rfl, rfl, rfl, by decide +kernel, rfl, by decide +kernel, by decide +kernel⟩
def spSe (Ts : List (Addr × Str)) (Ct Cs : Addr) : Sp := fun vs H Q _ => ∃ (X : Addr → Prop) (sa : Addr) (i j : Nat) (t : Int) (ss : List Dz01.Star), vs = [.ref sa, .int (i : Int), .int (j : Int), .int t] ∧ SesRet Ts X Ct Cs H Q sa ss (.separation i j t)
theorem meth_separation (C : Ctx P w K mg base Ts Ct Cs) : HasM P w K mg base Cs "separation" 11 ["self", "i", "j", "t"] (spSe Ts Ct Cs) := by
  obtain ⟨f, fd, M, F⟩ := C.m_separation
  refine ⟨C.ses.cl, f, fd, M, fnok_of F sc_Session_separation (fun vs H Q E h => by obtain ⟨_, _, _, _, _, _, rfl, _⟩ := h; rfl) (fun cdv A outer s H vs Q E hr h => ⟨_, (pss_cons (ps_if (PW.pt (pw_or (pt_cmpR op_ge (pv 1) (pe_callB call_len_seq (by rfl) C.t.len_ (by decide +kernel) (pa_cons (pe_fld (pv 0) rfl) pa_nil)) (nomark _)) (pw_or1 (pt_cmpR op_ge (pv 2) (pe_callB call_len_seq (by rfl) C.t.len_ (by decide +kernel) (pa_cons (pe_fld (pv 0) rfl) pa_nil)) (nomark _))))) (pss_one (ps_ret (pe_lst (pa_cons (pe_un un_neg (pe_gi C.t.NO_SUCH_STAR)) pa_nil)))) pss_nil) (pss_cons (ps_if (pt_not (pt_val (pe_h (has_is_moment C) (hr.mono (by decide)) rfl (pa_cons (pv 3) pa_nil)))) (pss_one (ps_ret (pe_lst (pa_cons (pe_un un_neg (pe_gi C.t.OUT_OF_RANGE)) pa_nil)))) pss_nil) (pss_cons (ps_set (i := 4) sc_Session_separation.nd rfl (Or.inl rfl) (pe_h (has_place_vector C) (hr.mono (by decide)) rfl (pa_cons (pe_ix ix_list (pe_fld (pv 0) rfl) (pv 1) (fun _ _ => rfl)) (pa_cons (pv 3) pa_nil)))) (pss_cons (ps_set (i := 5) sc_Session_separation.nd rfl (Or.inl rfl) (pe_h (has_place_vector C) (hr.mono (by decide)) rfl (pa_cons (pe_ix ix_list (pe_fld (pv 0) rfl) (pv 2) (fun _ _ => rfl)) (pa_cons (pv 3) pa_nil)))) (pss_one (ps_ret (pe_lst (pa_cons (pe_h (has_separation_of C) (hr.mono (by decide)) rfl (pa_cons (pv 4) (pa_cons (pv 5) pa_nil))) pa_nil)))))))), ?_⟩), F.binds fun _ _ _ _ _ _ us hl => match us, hl with | [_, _, _, _], _ => rfl⟩
  obtain ⟨X, sa, i, j, t, ss, rfl, ⟨dx, l, as, e1, e2, e3, e4, e5⟩, tb, q⟩ := h
  have e0 : (Dz01.spec ss (.separation i j t)).2 = (match ss[i]?, ss[j]? with
    | some x, some y => (ss, if Dz01.timeOkay t = false then Dz01.failed (-2) else ⟨Dz01.separation (Dz01.place x t) (Dz01.place y t), []⟩)
    | _, _ => (ss, Dz01.failed (-3))).2 := rfl
  rw [e0] at q
  clear e0
  walk_at "rx"
  refine rd_or2 (b1 := decide ((i : Int) ≥ (ss.length : Nat))) (b2 := decide ((j : Int) ≥ (ss.length : Nat))) (fun Q1 q1 => ?_) (fun Q1 q1 => ?_) ?_
  · walk_at "rx"
    refine ⟨sa, Cs, dx, _, _, rfl, e1, C.ses.cl, C.ses.na _ (by decide), rfl, ?_⟩
    walk_at "rx"
    refine ⟨l, refs as, rfl, .inl (SqL.of e2), ?_⟩
    rw [refs_len, e3.1]
    walk_at "rx"
    exact q1
  · walk_at "rx"
    refine ⟨sa, Cs, dx, _, _, rfl, e1, C.ses.cl, C.ses.na _ (by decide), rfl, ?_⟩
    walk_at "rx"
    refine ⟨l, refs as, rfl, .inl (SqL.of e2), ?_⟩
    rw [refs_len, e3.1]
    walk_at "rx"
    exact q1
  refine rd_b (fun c => ?_) (fun c => ?_)
  · have en : (match ss[i]?, ss[j]? with
      | some x, some y => (ss, if Dz01.timeOkay t = false then Dz01.failed (-2) else ⟨Dz01.separation (Dz01.place x t) (Dz01.place y t), []⟩)
      | _, _ => (ss, Dz01.failed (-3))).2 = ⟨-3, []⟩ := by
      rw [Bool.or_eq_true] at c
      rcases c with c | c
      · have := of_decide_eq_true c
        rw [List.getElem?_eq_none (i := i) (by omega)]
        rfl
      · have := of_decide_eq_true c
        rw [List.getElem?_eq_none (i := j) (by omega)]
        cases ss[i]? <;> rfl
    rw [en] at q
    walk_at "rx"
    exact ⟨by show 1 ≤ sizeLine; decide, q.lst (Up.refl tb) rfl⟩
  rw [Bool.or_eq_false_iff] at c
  have c1 := of_decide_eq_false c.1
  have c2 := of_decide_eq_false c.2
  have hi : i < ss.length := by omega
  have hj : j < ss.length := by omega
  have hx : ss[i]? = some ss[i] := List.getElem?_eq_getElem hi
  have hy : ss[j]? = some ss[j] := List.getElem?_eq_getElem hj
  generalize ss[i] = x at hx
  generalize ss[j] = y at hy
  obtain ⟨a, ha, sx⟩ := e3.toL.2 i x hx
  obtain ⟨b, hb, sy⟩ := e3.toL.2 j y hy
  rw [hx, hy] at q
  have q : RetI Ts H Q (outL (if Dz01.timeOkay t = false then Dz01.failed (-2) else ⟨Dz01.separation (Dz01.place x t) (Dz01.place y t), []⟩)) := q
  walk_at "rx"
  refine rd_f1 trivial ?_
  walk_at "rx"
  refine rd_nb (fun c => ?_) (fun c => ?_)
  · rw [if_pos c] at q
    walk_at "rx"
    exact ⟨by show 1 ≤ sizeLine; decide, q.lst (Up.refl tb) rfl⟩
  rw [if_neg (by rw [c]; decide)] at q
  walk_at "rx"
  refine ⟨sa, Cs, dx, _, _, rfl, e1, C.ses.cl, C.ses.na _ (by decide), rfl, ?_⟩
  walk_at "rx"
  refine ⟨l, refs as, i, _, rfl, rfl, SqL.of e2, at_of (j := i) rfl (refs_get ha), ?_⟩
  walk_at "rx"
  refine ⟨a, x, t, rfl, sx, time_t c, tb, fun H1 p1 u1 hp1 => ?_⟩
  walk_at "rx"
  refine ⟨sa, Cs, dx, _, _, rfl, u1.ins e1, C.ses.cl, C.ses.na _ (by decide), rfl, ?_⟩
  walk_at "rx"
  refine ⟨l, refs as, j, _, rfl, rfl, SqL.of (u1.lst e2), at_of (j := j) rfl (refs_get hb), ?_⟩
  walk_at "rx"
  refine ⟨b, y, t, rfl, sy.up u1, time_t c, u1.2, fun H2 p2 u2 hp2 => ?_⟩
  have U2 := u1.trans u2
  walk_at "rx"
  refine ⟨.ref p1, .ref p2, _, _, rfl, ⟨p1, rfl, u2.tup hp1, place_vb x t⟩, ⟨p2, rfl, hp2, place_vb y t⟩, U2.2, fun H3 u3 => ?_⟩
  walk_at "rx"
  exact ⟨by show 1 ≤ sizeLine; decide, q.lst (U2.trans u3) rfl⟩
end
section
variable {P : Program} {w : World} {K : PySem.W.Frag} {mg : Str → Option Value} {base : Heap} {Ts : List (Addr × Str)} {Ct Cs : Addr}
theorem sc_Session_cone : FnScope ["self", "longitude", "latitude", "radius", "limit", "t", "found", "numbers", "angle", "i"] ["self", "longitude", "latitude", "radius", "limit", "t"] (defScope (inClass (top 134) 9)) := ⟨rfl, rfl, rfl, by decide +kernel, rfl, by decide +kernel, by decide +kernel⟩
def spCone (Ts : List (Addr × Str)) (Ct Cs : Addr) : Sp := fun vs H Q _ => ∃ (X : Addr → Prop) (sa : Addr) (lon lat radius limit t : Int) (ss : List Dz01.Star), vs = [.ref sa, .int lon, .int lat, .int radius, .int limit, .int t] ∧ SesRet Ts X Ct Cs H Q sa ss (.cone lon lat radius limit t)
theorem spec_cone (ss : List Dz01.Star) (lon lat radius limit t : Int) : outL (Dz01.spec ss (.cone lon lat radius limit t)).2 = if searchOk lat radius t = false then [-2] else ((Dz01.cone ss (Dz01.vector lon lat) radius limit t).length : Int) :: (Dz01.cone ss (Dz01.vector lon lat) radius limit t).flatMap fun h => [(h.1 : Int), h.2] := by
  have e : (Dz01.spec ss (.cone lon lat radius limit t)).2 = if Dz01.timeOkay t = false ∨ Dz01.QUARTER < (lat.natAbs : Int) ∨ radius < 0 ∨ 2 * Dz01.QUARTER < radius then Dz01.failed (-2) else ⟨((Dz01.cone ss (Dz01.vector lon lat) radius limit t).length : Int), (Dz01.cone ss (Dz01.vector lon lat) radius limit t).flatMap fun h => [(h.1 : Int), h.2]⟩ := rfl
  have o2 : Dz01.QUARTER = 324000000 := rfl
  rw [e]
  have k : (Dz01.timeOkay t = false ∨ Dz01.QUARTER < (lat.natAbs : Int) ∨ radius < 0 ∨ 2 * Dz01.QUARTER < radius) ↔ searchOk lat radius t = false := by
    unfold searchOk
    rw [Bool.and_eq_false_iff, Bool.and_eq_false_iff, Bool.and_eq_false_iff, Bool.and_eq_false_iff, decide_eq_false_iff_not, decide_eq_false_iff_not, decide_eq_false_iff_not, decide_eq_false_iff_not, o2]
    cases Dz01.timeOkay t with
    | false => exact ⟨fun _ => .inl rfl, fun _ => .inl rfl⟩
    | true =>
      have z : ¬ (true = false) := by decide
      constructor
      · intro h
        rcases h with h | h
        · exact absurd h z
        · exact .inr (by omega)
      · intro h
        rcases h with h | h
        · exact absurd h z
        · exact .inr (by omega)
  by_cases h : searchOk lat radius t = false
  · rw [if_pos (k.mpr h), if_pos h]
    rfl
  · rw [if_neg fun z => h (k.mp z), if_neg h]
    rfl
theorem search_t {lat radius t : Int} (h : searchOk lat radius t = true) : Bx 10000000000 t := by
  unfold searchOk at h
  rw [Bool.and_eq_true] at h
  exact time_t h.1
theorem cone_len (ss : List Dz01.Star) (v : Dz01.Vec) (radius limit t : Int) : (Dz01.cone ss v radius limit t).length ≤ ss.length := by
  rw [cone_eq, (fold_perm _).length_eq]
  have := List.length_filterMap_le (hitF v radius limit t) (Dz01.numbered ss)
  rw [numbered_len] at this
  exact this
theorem flat2 (l : List Dz01.Hit) : (l.flatMap fun h => [(h.1 : Int), h.2]).length = 2 * l.length := by
  induction l with
  | nil => rfl
  | cons a l ih =>
    rw [List.flatMap_cons, List.length_append, ih]
    show 2 + 2 * l.length = 2 * (l.length + 1)
    omega
theorem meth_cone (C : Ctx P w K mg base Ts Ct Cs) : HasM P w K mg base Cs "cone" 12 ["self", "longitude", "latitude", "radius", "limit", "t"] (spCone Ts Ct Cs) := by
  obtain ⟨f, fd, M, F⟩ := C.m_cone
  refine ⟨C.ses.cl, f, fd, M, fnok_of F sc_Session_cone (fun vs H Q E h => by obtain ⟨_, _, _, _, _, _, _, _, rfl, _⟩ := h; rfl) (fun cdv A outer s H vs Q E hr h => ⟨_, (pss_cons (ps_if (pt_not (pt_val (pe_h (has_is_search C) (hr.mono (by decide)) rfl (pa_cons (pv 2) (pa_cons (pv 3) (pa_cons (pv 5) pa_nil)))))) (pss_one (ps_ret (pe_lst (pa_cons (pe_un un_neg (pe_gi C.t.OUT_OF_RANGE)) pa_nil)))) pss_nil) (pss_cons (ps_set (i := 6) sc_Session_cone.nd rfl (Or.inl rfl) (pe_h (has_found_stars C) (hr.mono (by decide)) rfl (pa_cons (pe_fld (pv 0) rfl) (pa_cons (pe_h (has_vector_at C) (hr.mono (by decide)) rfl (pa_cons (pv 1) (pa_cons (pv 2) pa_nil))) (pa_cons (pv 3) (pa_cons (pv 4) (pa_cons (pv 5) pa_nil))))))) (pss_cons (ps_set (i := 7) sc_Session_cone.nd rfl (Or.inl rfl) (pe_lst (pa_cons (pe_callB call_len_seq (by rfl) C.t.len_ (by decide +kernel) (pa_cons (pv 6) pa_nil)) pa_nil))) (pss_cons (ps_for PassesOwn.never rfl (pi_list (pv 6)) (pg_tup rfl (pgs_cons (pg_name (i := 8) sc_Session_cone.nd rfl (Or.inl rfl)) (pgs_cons (pg_name (i := 9) sc_Session_cone.nd rfl (Or.inl rfl)) pgs_nil))) (pss_one (ps_expr (pe_bm PySem.F.plainAttrs_list PySem.F.slot_list_extend PySem.F.type_list_extend mt_extend (pv 7) (pa_cons (pe_lst (pa_cons (pv 9) (pa_cons (pv 8) pa_nil))) pa_nil))))) (pss_one (ps_ret (pv 7))))))), ?_⟩), F.binds fun _ _ _ _ _ _ us hl => match us, hl with | [_, _, _, _, _, _], _ => rfl⟩
  obtain ⟨X, sa, lon, lat, radius, limit, t, ss, rfl, ⟨dx, l, as, e1, e2, e3, e4, e5⟩, tb, q⟩ := h
  rw [spec_cone] at q
  walk_at "rx"
  refine rd_f3 trivial ?_
  walk_at "rx"
  refine rd_nb (fun c => ?_) (fun c => ?_)
  · rw [if_pos c] at q
    walk_at "rx"
    exact ⟨by show 1 ≤ sizeLine; decide, q.lst (Up.refl tb) rfl⟩
  rw [if_neg (by rw [c]; decide)] at q
  have cl := cone_len ss (Dz01.vector lon lat) radius limit t
  have f2 := fun k => flat2 ((Dz01.cone ss (Dz01.vector lon lat) radius limit t).take k)
  walk_at "rx"
  refine ⟨sa, Cs, dx, _, _, rfl, e1, C.ses.cl, C.ses.na _ (by decide), rfl, ?_⟩
  walk_at "rx"
  refine ⟨lon, lat, rfl, tb, fun H1 p1 u1 hp1 => ?_⟩
  walk_at "rx"
  refine ⟨l, as, .ref p1, _, radius, limit, t, ss, rfl, u1.lst e2, e3.toL.up u1, e4, ⟨p1, rfl, hp1, (vector_vb lon lat).mono (by decide)⟩, search_t c, u1.2, fun H2 p2 bs u2 n2 hp2 T => ?_⟩
  have U2 := u1.trans u2
  generalize Dz01.cone ss (Dz01.vector lon lat) radius limit t = hs at *
  have tl : bs.length = hs.length := by
    have := T.1
    rw [List.length_map] at this
    exact this
  walk_at "rx"
  refine ⟨p2, refs bs, rfl, .inl (SqL.of hp2), ?_⟩
  rw [refs_len, tl]
  walk_at "rx"
  refine ⟨by show 1 ≤ sizeLine; decide, fun D hD => ?_⟩
  have nD := Nw.of hD
  walk_at "rx"
  refine rd_for ?_
  walk_at "rx"
  refine ⟨⟨refs bs, SqL.of (by rw [upd_ne (ne_of_none hp2 hD)]; exact hp2)⟩, for_list (xs := refs bs) (fun i σ H' => ∃ v8 v9 : Option V, σ = [some (.ref sa), some (.int lon), some (.int lat), some (.int radius), some (.int limit), some (.int t), some (.ref p2), some (.ref D), v8, v9] ∧ Up Ts H2 H' ∧ H' D = some (.lst (vi ((hs.length : Int) :: (hs.take i).flatMap fun h => [(h.1 : Int), h.2])))) ⟨none, none, rfl, Up.new U2.2 hD, upd_same⟩ ?_ ?_ ?_⟩
  · rintro i σ H' hi ⟨v8, v9, rfl, u, _⟩
    exact SqL.of (u.lst hp2)
  · rintro i y σ H' hy ⟨v8, v9, rfl, u, hD'⟩
    have hi : i < hs.length := by
      have := get_lt hy
      rw [refs_len, tl] at this
      exact this
    have hx : hs[i]? = some hs[i] := List.getElem?_eq_getElem hi
    generalize hs[i] = h at hx
    obtain ⟨b, hb, eb⟩ := T.2 i (hitT h) (by rw [List.getElem?_map, hx]; rfl)
    rw [refs_get hb] at hy
    cases hy
    refine rd_unp2 (SqT.of (u.tup eb)) ?_
    walk_at "rx"
    refine ⟨.inl ⟨rfl, _, SqL.of hD'⟩, ?_⟩
    walk_at "rx"
    refine ⟨by show 2 ≤ sizeLine; decide, fun p hp => ?_⟩
    have u3 := u.new2 (o := .lst [.int (h.1 : Int), .int h.2]) hp
    have hD3 : upd H' p (.lst [.int (h.1 : Int), .int h.2]) D = some (.lst (vi ((hs.length : Int) :: (hs.take i).flatMap fun h => [(h.1 : Int), h.2]))) := by
      rw [upd_ne (ne_of_none hD' hp)]
      exact hD'
    walk_at "rx"
    refine ⟨D, p, _, _, rfl, rfl, hD3, upd_same, ?_, ?_⟩
    · rw [vi_len, List.length_cons, f2]
      have tk := List.length_take_le' i hs
      exact Nat.le_trans (show 2 * (hs.take i).length + 1 + 2 ≤ 1000 by omega) (by decide)
    · refine ⟨_, _, rfl, u3.mut nD hD3, ?_⟩
      rw [upd_same, take_snoc hx, List.flatMap_append, ← List.cons_append, vi_snoc_map]
      rfl
  · rintro σ H' ⟨v8, v9, rfl, u, hD'⟩
    rw [refs_len, tl, List.take_length] at hD'
    walk_at "rx"
    exact q H' D (U2.trans u) (Nw.back U2 nD) hD'
theorem sc_Session_match_with : FnScope ["self", "tolerance", "t", "text", "error", "others", "matches", "numbers", "pair"] ["self", "tolerance", "t", "text"] (defScope (inClass (top 134) 10)) := ⟨rfl, rfl, rfl, by decide +kernel, rfl, by decide +kernel, by decide +kernel⟩
def readOut (ss : List Dz01.Star) (l : List Nat) (f : List Dz01.Star → Dz01.Outcome) : Dz01.Outcome := if Dz01.textOkay 6000 l = false then Dz01.failed (-1) else match Dz01.readCatalogue l with
  | .error e => ⟨-10 - (e.1 : Int), [(e.2 : Int)]⟩
  | .ok ys => f ys
def matO (ss : List Dz01.Star) (tol t : Int) (ys : List Dz01.Star) : Dz01.Outcome := ⟨((Dz01.matching ss ys tol t).length : Int), (Dz01.matching ss ys tol t).flatMap fun x => [(x.1 : Int), (x.2.1 : Int), x.2.2]⟩
theorem spec_match (ss : List Dz01.Star) (tol t : Int) (l : List Nat) : (Dz01.spec ss (.match_ tol t l)).2 = if Dz01.timeOkay t = false then Dz01.failed (-2) else readOut ss l (matO ss tol t) := by
  show (if Dz01.timeOkay t = false then (ss, Dz01.failed (-2)) else if Dz01.textOkay 6000 l = false then (ss, Dz01.failed (-1)) else match Dz01.readCatalogue l with
    | .error e => (ss, (⟨-10 - (e.1 : Int), [(e.2 : Int)]⟩ : Dz01.Outcome))
    | .ok ys => (ss, matO ss tol t ys)).2 = _
  unfold readOut
  by_cases h : Dz01.timeOkay t = false
  · rw [if_pos h, if_pos h]
  · rw [if_neg h, if_neg h]
    by_cases k : Dz01.textOkay 6000 l = false
    · rw [if_pos k, if_pos k]
    · rw [if_neg k, if_neg k]
      cases Dz01.readCatalogue l <;> rfl
theorem match_len (xs ys : List Dz01.Star) (tol t : Int) : (Dz01.matching xs ys tol t).length ≤ xs.length := by
  rw [matching_eq]
  have := List.length_filterMap_le (matF xs ys tol t) (Dz01.numbered xs)
  rw [numbered_len] at this
  exact this
theorem flat3 (l : List (Nat × Nat × Int)) : (l.flatMap fun x => [(x.1 : Int), (x.2.1 : Int), x.2.2]).length = 3 * l.length := by
  induction l with
  | nil => rfl
  | cons a l ih =>
    rw [List.flatMap_cons, List.length_append, ih]
    show 3 + 3 * l.length = 3 * (l.length + 1)
    omega
def spMat (Ts : List (Addr × Str)) (Ct Cs : Addr) : Sp := fun vs H Q _ => ∃ (X : Addr → Prop) (sa a : Addr) (tol t : Int) (l : List Nat) (ss : List Dz01.Star), vs = [.ref sa, .int tol, .int t, .ref a] ∧ H a = some (.lst (vn l)) ∧ l.length ≤ 6100 ∧ SesRet Ts X Ct Cs H Q sa ss (.match_ tol t l)
theorem meth_match_with (C : Ctx P w K mg base Ts Ct Cs) : HasM P w K mg base Cs "match_with" 12 ["self", "tolerance", "t", "text"] (spMat Ts Ct Cs) := by
  obtain ⟨f, fd, M, F⟩ := C.m_match_with
  refine ⟨C.ses.cl, f, fd, M, fnok_of F sc_Session_match_with (fun vs H Q E h => by obtain ⟨_, _, _, _, _, _, _, rfl, _⟩ := h; rfl) (fun cdv A outer s H vs Q E hr h => ⟨_, (pss_cons (ps_if (pt_not (pt_val (pe_h (has_is_moment C) (hr.mono (by decide)) rfl (pa_cons (pv 2) pa_nil)))) (pss_one (ps_ret (pe_lst (pa_cons (pe_un un_neg (pe_gi C.t.OUT_OF_RANGE)) pa_nil)))) pss_nil) (pss_cons (ps_asg (pe_h (has_read_catalogue C) (hr.mono (by decide)) rfl (pa_cons (pv 3) pa_nil)) (pg_tup rfl (pgs_cons (pg_name (i := 4) sc_Session_match_with.nd rfl (Or.inl rfl)) (pgs_cons (pg_name (i := 5) sc_Session_match_with.nd rfl (Or.inl rfl)) pgs_nil)))) (pss_cons (ps_if (pt_cmpR op_gt (pe_callB call_len_seq (by rfl) C.t.len_ (by decide +kernel) (pa_cons (pv 4) pa_nil)) pe_int (nomark _)) (pss_one (ps_ret (pv 4))) pss_nil) (pss_cons (ps_set (i := 6) sc_Session_match_with.nd rfl (Or.inl rfl) (pe_h (has_matches_of C) (hr.mono (by decide)) rfl (pa_cons (pe_fld (pv 0) rfl) (pa_cons (pv 5) (pa_cons (pv 2) (pa_cons (pv 1) pa_nil)))))) (pss_cons (ps_set (i := 7) sc_Session_match_with.nd rfl (Or.inl rfl) (pe_lst (pa_cons (pe_callB call_len_seq (by rfl) C.t.len_ (by decide +kernel) (pa_cons (pv 6) pa_nil)) pa_nil))) (pss_cons (ps_for PassesOwn.never rfl (pi_list (pv 6)) (pg_name (i := 8) sc_Session_match_with.nd rfl (Or.inl rfl)) (pss_one (ps_expr (pe_bm PySem.F.plainAttrs_list PySem.F.slot_list_extend PySem.F.type_list_extend mt_extendT (pv 7) (pa_cons (pv 8) pa_nil))))) (pss_one (ps_ret (pv 7))))))))), ?_⟩), F.binds fun _ _ _ _ _ _ us hl => match us, hl with | [_, _, _, _], _ => rfl⟩
  obtain ⟨X, sa, a, tol, t, tx, ss, rfl, ha, hn, ⟨dx, l, as, e1, e2, e3, e4, e5⟩, tb, q⟩ := h
  rw [spec_match] at q
  walk_at "rx"
  refine rd_f1 trivial ?_
  walk_at "rx"
  refine rd_nb (fun c => ?_) (fun c => ?_)
  · rw [if_pos c] at q
    walk_at "rx"
    exact ⟨by show 1 ≤ sizeLine; decide, q.lst (Up.refl tb) rfl⟩
  rw [if_neg (by rw [c]; decide)] at q
  walk_at "rx"
  refine ⟨a, tx, rfl, ha, hn, tb, fun H1 p1 e s u1 ne hp1 R => ?_⟩
  walk_at "rx"
  refine rd_unp2 (SqT.of hp1) ?_
  walk_at "rx"
  unfold readOut at q
  rcases R with ⟨r1, r2⟩ | ⟨r1, k, n, r2, r3⟩ | ⟨r1, bs, ys, r2, r3, r4, r5, r6, r7⟩
  · rw [if_pos r1] at q
    refine ⟨e, _, rfl, .inl (SqL.of r2), ?_⟩
    walk_at "rx"
    refine rd_d (fun c => ?_) (fun c => absurd (show (1 : Int) > 0 by decide) c)
    walk_at "rx"
    exact q H1 e u1 ne r2
  · rw [if_neg (by rw [r1]; decide), r2] at q
    refine ⟨e, _, rfl, .inl (SqL.of r3), ?_⟩
    walk_at "rx"
    refine rd_d (fun c => ?_) (fun c => absurd (show (2 : Int) > 0 by decide) c)
    walk_at "rx"
    exact q H1 e u1 ne r3
  rw [if_neg (by rw [r1]; decide), r2] at q
  have q : RetI Ts H Q (((Dz01.matching ss ys tol t).length : Int) :: (Dz01.matching ss ys tol t).flatMap fun x => [(x.1 : Int), (x.2.1 : Int), x.2.2]) := q
  refine ⟨e, _, rfl, .inl (SqL.of r3), ?_⟩
  walk_at "rx"
  refine rd_d (fun c => absurd c (show ¬ (0 : Int) > 0 by decide)) (fun _ => ?_)
  walk_at "rx"
  refine ⟨sa, Cs, dx, _, _, rfl, u1.ins e1, C.ses.cl, C.ses.na _ (by decide), rfl, ?_⟩
  walk_at "rx"
  refine ⟨l, s, as, bs, t, tol, ss, ys, rfl, u1.lst e2, e3.toL.up u1, e4, r4, r5.toL, r6, time_t c, u1.2, fun H2 p2 cs u2 n2 hp2 T => ?_⟩
  have U2 := u1.trans u2
  have ml := match_len ss ys tol t
  generalize Dz01.matching ss ys tol t = hs at *
  have f3 := fun k => flat3 (hs.take k)
  have tl : cs.length = hs.length := by
    have := T.1
    rw [List.length_map] at this
    exact this
  walk_at "rx"
  refine ⟨p2, refs cs, rfl, .inl (SqL.of hp2), ?_⟩
  rw [refs_len, tl]
  walk_at "rx"
  refine ⟨by show 1 ≤ sizeLine; decide, fun D hD => ?_⟩
  have nD := Nw.of hD
  walk_at "rx"
  refine rd_for ?_
  walk_at "rx"
  refine ⟨⟨refs cs, SqL.of (by rw [upd_ne (ne_of_none hp2 hD)]; exact hp2)⟩, for_list (xs := refs cs) (fun i σ H' => ∃ v8 : Option V, σ = [some (.ref sa), some (.int tol), some (.int t), some (.ref a), some (.ref e), some (.ref s), some (.ref p2), some (.ref D), v8] ∧ Up Ts H2 H' ∧ H' D = some (.lst (vi ((hs.length : Int) :: (hs.take i).flatMap fun x => [(x.1 : Int), (x.2.1 : Int), x.2.2])))) ⟨none, rfl, Up.new U2.2 hD, upd_same⟩ ?_ ?_ ?_⟩
  · rintro i σ H' hi ⟨v8, rfl, u, _⟩
    exact SqL.of (u.lst hp2)
  · rintro i y σ H' hy ⟨v8, rfl, u, hD'⟩
    have hi : i < hs.length := by
      have := get_lt hy
      rw [refs_len, tl] at this
      exact this
    have hx : hs[i]? = some hs[i] := List.getElem?_eq_getElem hi
    generalize hs[i] = h at hx
    obtain ⟨b, hb, eb⟩ := T.2 i (matT h) (by rw [List.getElem?_map, hx]; rfl)
    rw [refs_get hb] at hy
    cases hy
    walk_at "rx"
    refine ⟨.inl ⟨rfl, _, SqL.of hD'⟩, ?_⟩
    walk_at "rx"
    refine ⟨D, b, _, _, rfl, rfl, hD', u.tup eb, ?_, ?_⟩
    · rw [vi_len, List.length_cons, f3, vi_len]
      have tk := List.length_take_le' i hs
      exact Nat.le_trans (show 3 * (hs.take i).length + 1 + 3 ≤ 1000 by omega) (by decide)
    · refine ⟨_, rfl, u.mut nD hD', ?_⟩
      rw [upd_same, take_snoc hx, List.flatMap_append, ← List.cons_append, vi_snoc_map]
      rfl
  · rintro σ H' ⟨v8, rfl, u, hD'⟩
    rw [refs_len, tl, List.take_length] at hD'
    walk_at "rx"
    exact q H' D (U2.trans u) (Nw.back U2 nD) hD'
theorem sc_Session_load : FnScope ["self", "text", "error", "stars"] ["self", "text"] (defScope (inClass (top 134) 1)) := ⟨rfl, rfl, rfl, by decide +kernel, rfl, by decide +kernel, by decide +kernel⟩
/-- lists and tuples stay -/
def Kp (Ts : List (Addr × Str)) (H H' : Hp) : Prop := (∀ a xs, H a = some (.lst xs) → H' a = some (.lst xs)) ∧ (∀ a xs, H a = some (.tup xs) → H' a = some (.tup xs)) ∧ Tabs Ts H'
theorem Kp.of {H H' : Hp} (u : Up Ts H H') : Kp Ts H H' := ⟨fun _ _ h => u.lst h, fun _ _ h => u.tup h, u.2⟩
theorem StarsX.putI {X : Addr → Prop} {H : Hp} {as : List Addr} {ss : List Dz01.Star} {D C dx : Addr} {fs : List (Str × V)} {o : HO} (h : StarsX X Ct H as ss) (k : H D = some (.ins C dx fs)) (n : fs.length ≠ 6) : StarsX X Ct (upd H D o) as ss := ⟨h.1, fun i x e => by
  obtain ⟨a, dy, na, e1, e2, e3, hx, ok⟩ := h.2 i x e
  refine ⟨a, dy, na, e1, ?_, ?_, hx, ok⟩
  · rw [upd_ne]
    · exact e2
    · intro z
      rw [z, k] at e2
      injection e2 with e2
      injection e2 with _ _ e2
      rw [e2] at n
      exact n rfl
  · rw [upd_ne (fun z => by rw [z, k] at e3; cases e3)]
    exact e3⟩
theorem tabs_putI {H : Hp} {D C dx : Addr} {fs : List (Str × V)} {o : HO} (t : Tabs Ts H) (h : H D = some (.ins C dx fs)) : Tabs Ts (upd H D o) := fun p hp => by
  obtain ⟨ps, e1, e2, e3⟩ := t p hp
  refine ⟨ps, ?_, e2, fun pos cv z => ?_⟩
  · rw [upd_ne (fun z => by rw [z, h] at e1; cases e1)]
    exact e1
  · obtain ⟨c, w1, w2⟩ := e3 pos cv z
    refine ⟨c, w1, ?_⟩
    rw [upd_ne (fun z => by rw [z, h] at w2; cases w2)]
    exact w2
def RetS (Ts : List (Addr × Str)) (X : Addr → Prop) (Ct Cs : Addr) (H : Hp) (Q : VK) (sa : Addr) (ss : List Dz01.Star) (c : Dz01.Call) : Prop := ∀ H' p, Kp Ts H H' → SesAt X Ct Cs H' sa (Dz01.spec ss c).1 → Nw H p → H' p = some (.lst (vi (outL (Dz01.spec ss c).2))) → Q (.ref p) H'
def spLoad (Ts : List (Addr × Str)) (Ct Cs : Addr) : Sp := fun vs H Q _ => ∃ (X : Addr → Prop) (sa a : Addr) (l : List Nat) (ss : List Dz01.Star), vs = [.ref sa, .ref a] ∧ H a = some (.lst (vn l)) ∧ l.length ≤ 6100 ∧ SesAt X Ct Cs H sa ss ∧ (∀ na, Nw H na → X na) ∧ Tabs Ts H ∧ RetS Ts X Ct Cs H Q sa ss (.load l)
theorem spec_load (ss : List Dz01.Star) (l : List Nat) : Dz01.spec ss (.load l) = if Dz01.textOkay 6000 l = false then (ss, Dz01.failed (-1)) else match Dz01.readCatalogue l with
    | .error e => (ss, ⟨-10 - (e.1 : Int), [(e.2 : Int)]⟩)
    | .ok x => (x, ⟨(x.length : Int), []⟩) := rfl
theorem meth_load (C : Ctx P w K mg base Ts Ct Cs) : HasM P w K mg base Cs "load" 7 ["self", "text"] (spLoad Ts Ct Cs) := by
  obtain ⟨f, fd, M, F⟩ := C.m_load
  refine ⟨C.ses.cl, f, fd, M, fnok_of F sc_Session_load (fun vs H Q E h => by obtain ⟨_, _, _, _, _, rfl, _⟩ := h; rfl) (fun cdv A outer s H vs Q E hr h => ⟨_, (pss_cons (ps_asg (pe_h (has_read_catalogue C) (hr.mono (by decide)) rfl (pa_cons (pv 1) pa_nil)) (pg_tup rfl (pgs_cons (pg_name (i := 2) sc_Session_load.nd rfl (Or.inl rfl)) (pgs_cons (pg_name (i := 3) sc_Session_load.nd rfl (Or.inl rfl)) pgs_nil)))) (pss_cons (ps_if (pt_cmpR op_gt (pe_callB call_len_seq (by rfl) C.t.len_ (by decide +kernel) (pa_cons (pv 2) pa_nil)) pe_int (nomark _)) (pss_one (ps_ret (pv 2))) pss_nil) (pss_cons (ps_fld (pv 0) (pv 3) rfl) (pss_one (ps_ret (pe_lst (pa_cons (pe_callB call_len_seq (by rfl) C.t.len_ (by decide +kernel) (pa_cons (pv 3) pa_nil)) pa_nil))))))), ?_⟩), F.binds fun _ _ _ _ _ _ us hl => match us, hl with | [_, _], _ => rfl⟩
  obtain ⟨X, sa, a, tx, ss, rfl, ha, hn, hses, hX, tb, q⟩ := h
  obtain ⟨dx, l, as, e1, e2, e3, e4, e5⟩ := id hses
  unfold RetS at q
  rw [spec_load] at q
  walk_at "rx"
  refine ⟨a, tx, rfl, ha, hn, tb, fun H1 p1 e s u1 ne hp1 R => ?_⟩
  walk_at "rx"
  refine rd_unp2 (SqT.of hp1) ?_
  walk_at "rx"
  rcases R with ⟨r1, r2⟩ | ⟨r1, k, n, r2, r3⟩ | ⟨r1, bs, ys, r2, r3, r4, r5, r6, r7⟩
  · rw [if_pos r1] at q
    refine ⟨e, _, rfl, .inl (SqL.of r2), ?_⟩
    walk_at "rx"
    refine rd_d (fun c => ?_) (fun c => absurd (show (1 : Int) > 0 by decide) c)
    walk_at "rx"
    exact q H1 e (Kp.of u1) (hses.up u1) ne r2
  · rw [if_neg (by rw [r1]; decide), r2] at q
    refine ⟨e, _, rfl, .inl (SqL.of r3), ?_⟩
    walk_at "rx"
    refine rd_d (fun c => ?_) (fun c => absurd (show (2 : Int) > 0 by decide) c)
    walk_at "rx"
    exact q H1 e (Kp.of u1) (hses.up u1) ne r3
  rw [if_neg (by rw [r1]; decide), r2] at q
  refine ⟨e, _, rfl, .inl (SqL.of r3), ?_⟩
  walk_at "rx"
  refine rd_d (fun c => absurd c (show ¬ (0 : Int) > 0 by decide)) (fun _ => ?_)
  walk_at "rx"
  have hsa := u1.ins e1
  refine ⟨sa, Cs, dx, _, rfl, hsa, C.ses.cl, C.ses.na _ (by decide), by show 1 < 1000; decide, ?_⟩
  walk_at "rx"
  have nls : ∀ {x : Addr} {zs : List V}, H1 x = some (.lst zs) → x ≠ sa := fun h z => by
    rw [z, hsa] at h
    cases h
  have nts : ∀ {x : Addr} {zs : List V}, H1 x = some (.tup zs) → x ≠ sa := fun h z => by
    rw [z, hsa] at h
    cases h
  refine ⟨s, refs bs, rfl, .inl (SqL.of (by rw [upd_ne (nls r4)]; exact r4)), ?_⟩
  rw [refs_len, r5.1]
  walk_at "rx"
  refine ⟨by show 1 ≤ sizeLine; decide, fun p hp => ?_⟩
  have r5' := r5.imp (Y := X) fun na _ _ h => hX na h
  have k2 := StarsX.putI (o := .ins Cs dx (putF "stars" (.ref s) [("stars", .ref l)])) r5' hsa (by show 1 ≠ 6; decide)
  have t2 := tabs_putI (o := .ins Cs dx (putF "stars" (.ref s) [("stars", .ref l)])) u1.2 hsa
  have u3 := Up.new (o := .lst [.int (ys.length : Nat)]) t2 hp
  have nps : p ≠ sa := fun z => by
    rw [z, upd_same] at hp
    cases hp
  have nwp : Nw H p := Nw.back u1 (Nw.of (by rw [upd_ne nps] at hp; exact hp))
  refine q _ p ⟨fun b xs h => u3.lst (by rw [upd_ne (nls (u1.lst h))]; exact u1.lst h), fun b xs h => u3.tup (by rw [upd_ne (nts (u1.tup h))]; exact u1.tup h), u3.2⟩ ⟨dx, s, bs, u3.ins upd_same, u3.lst (by rw [upd_ne (nls r4)]; exact r4), k2.up u3, r6, hX s r7⟩ nwp upd_same
end
section
variable {P : Program} {w : World} {K : PySem.W.Frag} {mg : Str → Option Value} {base : Heap} {Ts : List (Addr × Str)} {Ct Cs : Addr}
/-! ### calls, flat -/
inductive Sh : Nat → List Int → List Nat → Dz01.Call → Prop
  | load (r : List Nat) : Sh 0 [] r (.load r)
  | star (i : Nat) : Sh 1 [(i : Int)] [] (.star i)
  | find (r : List Nat) : Sh 2 [] r (.find r)
  | expo : Sh 3 [] [] .export_
  | place (i : Nat) (t : Int) : Sh 4 [(i : Int), t] [] (.place i t)
  | horizon (i : Nat) (t a b : Int) : Sh 5 [(i : Int), t, a, b] [] (.horizon i t ⟨a, b⟩)
  | ecliptic (i : Nat) (t : Int) : Sh 6 [(i : Int), t] [] (.ecliptic i t)
  | separation (i j : Nat) (t : Int) : Sh 7 [(i : Int), (j : Int), t] [] (.separation i j t)
  | cone (a b r m t : Int) : Sh 8 [a, b, r, m, t] [] (.cone a b r m t)
  | mat (d t : Int) (r : List Nat) : Sh 9 [d, t] r (.match_ d t r)
  | date (t : Int) : Sh 10 [t] [] (.date t)
  | moment (y m d s : Int) : Sh 11 [y, m, d, s] [] (.moment y m d s)
  | sidereal (t : Int) : Sh 12 [t] [] (.sidereal t)
  | sines (a : Int) : Sh 13 [a] [] (.sines a)
  | angles (x y : Int) : Sh 14 [x, y] [] (.angles x y)
structure Itm where
  op : Nat
  a : List Int
  r : List Nat
  c : Dz01.Call
def hasR (op : Nat) : Bool := decide (op = 0) || (decide (op = 2) || decide (op = 9))
def flat (x : Itm) : List Int := ((x.op : Int) :: x.a) ++ (if hasR x.op = true then (x.r.length : Int) :: Dz01.ints x.r else [])
def Itm.Ok (x : Itm) : Prop := Sh x.op x.a x.r x.c ∧ x.r.length ≤ 6100
/-- the answers to calls, from a state on -/
def run : List Dz01.Star → List Itm → List Int
  | _, [] => []
  | s, x :: r => ((outL (Dz01.spec s x.c).2).length : Int) :: outL (Dz01.spec s x.c).2 ++ run (Dz01.spec s x.c).1 r
theorem whole_eq (c : List (List Int)) : PyDz01.whole c = c := by
  unfold PyDz01.whole
  split <;> rfl
theorem arg_of {lo hi z : Int} (h : PyInside.within lo hi z = true) (h1 : -1000000000000000000 ≤ lo) (h2 : hi ≤ 1000000000000000000) : Dz01Neutral.isArgument z = true := by
  unfold PyInside.within at h
  have := and_t h
  unfold Dz01Neutral.isArgument
  exact decide_eq_true (by omega)
theorem nn_of {hi z : Int} (h : PyInside.within 0 hi z = true) : ∃ n : Nat, z = (n : Int) := by
  unfold PyInside.within at h
  have := and_t h
  exact ⟨z.toNat, by omega⟩
theorem ints_nats {l : List Int} (h : ∀ z ∈ l, PyInside.within 0 300 z = true) : Dz01.ints (Dz01Neutral.nats l) = l := by
  unfold Dz01.ints Dz01Neutral.nats
  rw [List.map_map]
  induction l with
  | nil => rfl
  | cons z l ih =>
    rw [List.map_cons, ih fun x hx => h x (List.mem_cons_of_mem _ hx)]
    have k := h z (List.mem_cons_self ..)
    unfold PyInside.within at k
    have := and_t k
    show ((z.toNat : Nat) : Int) :: l = z :: l
    congr 1
    omega
theorem row_ok {bs : List (Int × Int × Nat × Nat)} {r : List Int} (h : PyInside.lists ((0, 300, 0, 6100) :: bs) [r] = true) : (∀ z ∈ r, PyInside.within 0 300 z = true) ∧ r.length ≤ 6100 ∧ Dz01Neutral.isList r = true := by
  have h' : (decide (0 ≤ r.length) && decide (r.length ≤ 6100) && r.all (PyInside.within 0 300) && PyInside.lists bs []) = true := h
  rw [Bool.and_eq_true, Bool.and_eq_true, Bool.and_eq_true] at h'
  have h1 := List.all_eq_true.mp h'.1.2
  have h2 := of_decide_eq_true h'.1.1.2
  refine ⟨h1, h2, ?_⟩
  unfold Dz01Neutral.isList
  rw [decide_eq_true h2, Bool.true_and]
  exact h'.1.2
theorem p_arg {p : Int} (h : -100 ≤ p) (k : p ≤ 100) : Dz01Neutral.isArgument p = true := by
  unfold Dz01Neutral.isArgument
  exact decide_eq_true (by omega)
theorem each_cons {lo hi x : Int} {b : List (Int × Int)} {xs : List Int} (h : PyInside.each ((lo, hi) :: b) (x :: xs) = true) : PyInside.within lo hi x = true ∧ PyInside.each b xs = true := by
  have h' : (PyInside.within lo hi x && PyInside.each b xs) = true := h
  rw [Bool.and_eq_true] at h'
  exact h'
theorem parse_of {h : List Int} {ls : List (List Int)} (h1 : h.all Dz01Neutral.isArgument = true) (h2 : ls.all Dz01Neutral.isList = true) : Dz01Neutral.parseCall (h :: ls) = Dz01Neutral.parseCall0 (h :: ls) := if_pos ⟨h1, h2⟩
theorem all1 {a : Int} (h : Dz01Neutral.isArgument a = true) {l : List Int} (k : l.all Dz01Neutral.isArgument = true) : (a :: l).all Dz01Neutral.isArgument = true := by
  rw [List.all_cons, h, k]
  rfl
theorem l1_of {l : List (List Int)} (h : l.length = 1) : ∃ r, l = [r] := match l, h with
  | [r], _ => ⟨r, rfl⟩
theorem l0_of {α : Type} {l : List α} (h : l.length = 0) : l = [] := List.eq_nil_of_length_eq_zero h
theorem i1_of {l : List Int} (h : l.length = 1) : ∃ r, l = [r] := match l, h with
  | [r], _ => ⟨r, rfl⟩
theorem i2_of {l : List Int} (h : l.length = 2) : ∃ a b, l = [a, b] := match l, h with
  | [a, b], _ => ⟨a, b, rfl⟩
theorem i3_of {l : List Int} (h : l.length = 3) : ∃ a b c, l = [a, b, c] := match l, h with
  | [a, b, c], _ => ⟨a, b, c, rfl⟩
theorem i4_of {l : List Int} (h : l.length = 4) : ∃ a b c d, l = [a, b, c, d] := match l, h with
  | [a, b, c, d], _ => ⟨a, b, c, d, rfl⟩
theorem i5_of {l : List Int} (h : l.length = 5) : ∃ a b c d e, l = [a, b, c, d, e] := match l, h with
  | [a, b, c, d, e], _ => ⟨a, b, c, d, e, rfl⟩
theorem flat_row {op : Nat} {a : List Int} {r : List Int} {c : Dz01.Call} (h : hasR op = true) (hr : ∀ z ∈ r, PyInside.within 0 300 z = true) : PyFlat.put1 [(op : Int) :: a, r] = flat ⟨op, a, Dz01Neutral.nats r, c⟩ := by
  unfold flat
  dsimp only
  rw [if_pos h, ints_nats hr]
  have e : (Dz01Neutral.nats r).length = r.length := List.length_map ..
  rw [e]
  show ((op : Int) :: a) ++ (((r.length : Int) :: r) ++ []) = _
  rw [List.append_nil]
theorem flat_none {op : Nat} {a : List Int} {c : Dz01.Call} (h : hasR op = false) : PyFlat.put1 [(op : Int) :: a] = flat ⟨op, a, [], c⟩ := by
  unfold flat
  dsimp only
  rw [if_neg (by rw [h]; decide)]
  rfl
/-- what a call that is asked is -/
def Is (c : List (List Int)) (x : Itm) : Prop := x.Ok ∧ PyFlat.put1 c = flat x ∧ Dz01Neutral.parseCall c = some x.c
theorem call_is {c : List (List Int)} (h : PyFlat.okCall PyDz01.shape c) (b : PyInside.call PyDz01.bound c = true) : ∃ x, Is c x := by
  obtain ⟨p, a, xs, rfl, hs⟩ := h
  have b' : (PyInside.each (PyDz01.bound p).1 a && PyInside.lists (PyDz01.bound p).2 xs) = true := b
  rw [Bool.and_eq_true] at b'
  obtain ⟨be, bl⟩ := b'
  unfold PyDz01.shape at hs
  have sm : ∀ {m n : Nat}, some (m, n) = some (a.length, xs.length) → a.length = m ∧ xs.length = n := fun h => by
    have := Option.some.inj h
    have := Prod.mk.inj this
    exact ⟨this.1.symm, this.2.symm⟩
  by_cases hp : p = 0
  · rw [if_pos hp] at hs
    subst hp
    obtain ⟨la, lx⟩ := sm hs
    have := l0_of la
    subst this
    obtain ⟨r, rfl⟩ := l1_of lx
    obtain ⟨r1, r2, r3⟩ := row_ok (bs := []) bl
    refine ⟨⟨0, [], Dz01Neutral.nats r, .load (Dz01Neutral.nats r)⟩, ⟨.load _, ?_⟩, flat_row (op := 0) rfl r1, ?_⟩
    · exact Nat.le_trans (Nat.le_of_eq (List.length_map ..)) r2
    · rw [parse_of (all1 (p_arg (by decide) (by decide)) rfl) (by rw [List.all_cons, r3]; rfl)]
      rfl
  rw [if_neg hp] at hs
  by_cases hp : p = 1
  · rw [if_pos hp] at hs
    subst hp
    obtain ⟨la, lx⟩ := sm hs
    have := l0_of lx
    subst this
    obtain ⟨i, rfl⟩ := i1_of la
    obtain ⟨w1, _⟩ := each_cons (b := []) be
    obtain ⟨n, rfl⟩ := nn_of w1
    refine ⟨⟨1, [(n : Int)], [], .star n⟩, ⟨.star n, Nat.zero_le _⟩, flat_none (op := 1) rfl, ?_⟩
    rw [parse_of (all1 (p_arg (by decide) (by decide)) (all1 (arg_of w1 (by decide) (by decide)) rfl)) rfl]
    show (if (n : Int) < 0 then none else some (Dz01.Call.star (n : Int).toNat)) = _
    rw [if_neg (show ¬ ((n : Int) < 0) by omega)]
    rfl
  rw [if_neg hp] at hs
  by_cases hp : p = 2
  · rw [if_pos hp] at hs
    subst hp
    obtain ⟨la, lx⟩ := sm hs
    have := l0_of la
    subst this
    obtain ⟨r, rfl⟩ := l1_of lx
    obtain ⟨r1, r2, r3⟩ := row_ok (bs := []) bl
    refine ⟨⟨2, [], Dz01Neutral.nats r, .find (Dz01Neutral.nats r)⟩, ⟨.find _, ?_⟩, flat_row (op := 2) rfl r1, ?_⟩
    · exact Nat.le_trans (Nat.le_of_eq (List.length_map ..)) r2
    · rw [parse_of (all1 (p_arg (by decide) (by decide)) rfl) (by rw [List.all_cons, r3]; rfl)]
      rfl
  rw [if_neg hp] at hs
  by_cases hp : p = 3
  · rw [if_pos hp] at hs
    subst hp
    obtain ⟨la, lx⟩ := sm hs
    have := l0_of la
    subst this
    have := l0_of lx
    subst this
    exact ⟨⟨3, [], [], .export_⟩, ⟨.expo, Nat.zero_le _⟩, flat_none (op := 3) rfl, parse_of (all1 (p_arg (by decide) (by decide)) rfl) rfl⟩
  rw [if_neg hp] at hs
  by_cases hp : p = 4
  · rw [if_pos hp] at hs
    subst hp
    obtain ⟨la, lx⟩ := sm hs
    have := l0_of lx
    subst this
    obtain ⟨i, t, rfl⟩ := i2_of la
    obtain ⟨w1, be⟩ := each_cons (b := [(-1000000000000000000, 1000000000000000000)]) be
    obtain ⟨w2, _⟩ := each_cons (b := []) be
    obtain ⟨n, rfl⟩ := nn_of w1
    refine ⟨⟨4, [(n : Int), t], [], .place n t⟩, ⟨.place n t, Nat.zero_le _⟩, flat_none (op := 4) rfl, ?_⟩
    rw [parse_of (all1 (p_arg (by decide) (by decide)) (all1 (arg_of w1 (by decide) (by decide)) (all1 (arg_of w2 (by decide) (by decide)) rfl))) rfl]
    show (if (n : Int) < 0 then none else some (Dz01.Call.place (n : Int).toNat t)) = _
    rw [if_neg (show ¬ ((n : Int) < 0) by omega)]
    rfl
  rw [if_neg hp] at hs
  by_cases hp : p = 5
  · rw [if_pos hp] at hs
    subst hp
    obtain ⟨la, lx⟩ := sm hs
    have := l0_of lx
    subst this
    obtain ⟨i, t, u, v, rfl⟩ := i4_of la
    obtain ⟨w1, be⟩ := each_cons (b := [(-1000000000000000000, 1000000000000000000), (-1000000000000000000, 1000000000000000000), (-1000000000000000000, 1000000000000000000)]) be
    obtain ⟨w2, be⟩ := each_cons (b := [(-1000000000000000000, 1000000000000000000), (-1000000000000000000, 1000000000000000000)]) be
    obtain ⟨w3, be⟩ := each_cons (b := [(-1000000000000000000, 1000000000000000000)]) be
    obtain ⟨w4, _⟩ := each_cons (b := []) be
    obtain ⟨n, rfl⟩ := nn_of w1
    refine ⟨⟨5, [(n : Int), t, u, v], [], .horizon n t ⟨u, v⟩⟩, ⟨.horizon n t u v, Nat.zero_le _⟩, flat_none (op := 5) rfl, ?_⟩
    rw [parse_of (all1 (p_arg (by decide) (by decide)) (all1 (arg_of w1 (by decide) (by decide)) (all1 (arg_of w2 (by decide) (by decide)) (all1 (arg_of w3 (by decide) (by decide)) (all1 (arg_of w4 (by decide) (by decide)) rfl))))) rfl]
    show (if (n : Int) < 0 then none else some (Dz01.Call.horizon (n : Int).toNat t ⟨u, v⟩)) = _
    rw [if_neg (show ¬ ((n : Int) < 0) by omega)]
    rfl
  rw [if_neg hp] at hs
  by_cases hp : p = 6
  · rw [if_pos hp] at hs
    subst hp
    obtain ⟨la, lx⟩ := sm hs
    have := l0_of lx
    subst this
    obtain ⟨i, t, rfl⟩ := i2_of la
    obtain ⟨w1, be⟩ := each_cons (b := [(-1000000000000000000, 1000000000000000000)]) be
    obtain ⟨w2, _⟩ := each_cons (b := []) be
    obtain ⟨n, rfl⟩ := nn_of w1
    refine ⟨⟨6, [(n : Int), t], [], .ecliptic n t⟩, ⟨.ecliptic n t, Nat.zero_le _⟩, flat_none (op := 6) rfl, ?_⟩
    rw [parse_of (all1 (p_arg (by decide) (by decide)) (all1 (arg_of w1 (by decide) (by decide)) (all1 (arg_of w2 (by decide) (by decide)) rfl))) rfl]
    show (if (n : Int) < 0 then none else some (Dz01.Call.ecliptic (n : Int).toNat t)) = _
    rw [if_neg (show ¬ ((n : Int) < 0) by omega)]
    rfl
  rw [if_neg hp] at hs
  by_cases hp : p = 7
  · rw [if_pos hp] at hs
    subst hp
    obtain ⟨la, lx⟩ := sm hs
    have := l0_of lx
    subst this
    obtain ⟨i, j, t, rfl⟩ := i3_of la
    obtain ⟨w1, be⟩ := each_cons (b := [(0, 1000000000000000000), (-1000000000000000000, 1000000000000000000)]) be
    obtain ⟨w2, be⟩ := each_cons (b := [(-1000000000000000000, 1000000000000000000)]) be
    obtain ⟨w3, _⟩ := each_cons (b := []) be
    obtain ⟨n, rfl⟩ := nn_of w1
    obtain ⟨m, rfl⟩ := nn_of w2
    refine ⟨⟨7, [(n : Int), (m : Int), t], [], .separation n m t⟩, ⟨.separation n m t, Nat.zero_le _⟩, flat_none (op := 7) rfl, ?_⟩
    rw [parse_of (all1 (p_arg (by decide) (by decide)) (all1 (arg_of w1 (by decide) (by decide)) (all1 (arg_of w2 (by decide) (by decide)) (all1 (arg_of w3 (by decide) (by decide)) rfl)))) rfl]
    show (if (n : Int) < 0 ∨ (m : Int) < 0 then none else some (Dz01.Call.separation (n : Int).toNat (m : Int).toNat t)) = _
    rw [if_neg (show ¬ ((n : Int) < 0 ∨ (m : Int) < 0) by omega)]
    rfl
  rw [if_neg hp] at hs
  by_cases hp : p = 8
  · rw [if_pos hp] at hs
    subst hp
    obtain ⟨la, lx⟩ := sm hs
    have := l0_of lx
    subst this
    obtain ⟨i, t, u, v, w, rfl⟩ := i5_of la
    obtain ⟨w1, be⟩ := each_cons (b := [(-1000000000000000000, 1000000000000000000), (-1000000000000000000, 1000000000000000000), (-1000000000000000000, 1000000000000000000), (-1000000000000000000, 1000000000000000000)]) be
    obtain ⟨w2, be⟩ := each_cons (b := [(-1000000000000000000, 1000000000000000000), (-1000000000000000000, 1000000000000000000), (-1000000000000000000, 1000000000000000000)]) be
    obtain ⟨w3, be⟩ := each_cons (b := [(-1000000000000000000, 1000000000000000000), (-1000000000000000000, 1000000000000000000)]) be
    obtain ⟨w4, be⟩ := each_cons (b := [(-1000000000000000000, 1000000000000000000)]) be
    obtain ⟨w5, _⟩ := each_cons (b := []) be
    refine ⟨⟨8, [i, t, u, v, w], [], .cone i t u v w⟩, ⟨.cone i t u v w, Nat.zero_le _⟩, flat_none (op := 8) rfl, ?_⟩
    rw [parse_of (all1 (p_arg (by decide) (by decide)) (all1 (arg_of w1 (by decide) (by decide)) (all1 (arg_of w2 (by decide) (by decide)) (all1 (arg_of w3 (by decide) (by decide)) (all1 (arg_of w4 (by decide) (by decide)) (all1 (arg_of w5 (by decide) (by decide)) rfl)))))) rfl]
    rfl
  rw [if_neg hp] at hs
  by_cases hp : p = 9
  · rw [if_pos hp] at hs
    subst hp
    obtain ⟨la, lx⟩ := sm hs
    obtain ⟨d, t, rfl⟩ := i2_of la
    obtain ⟨r, rfl⟩ := l1_of lx
    obtain ⟨r1, r2, r3⟩ := row_ok (bs := []) bl
    obtain ⟨w1, be⟩ := each_cons (b := [(-1000000000000000000, 1000000000000000000)]) be
    obtain ⟨w2, _⟩ := each_cons (b := []) be
    refine ⟨⟨9, [d, t], Dz01Neutral.nats r, .match_ d t (Dz01Neutral.nats r)⟩, ⟨.mat d t _, ?_⟩, flat_row (op := 9) rfl r1, ?_⟩
    · exact Nat.le_trans (Nat.le_of_eq (List.length_map ..)) r2
    · rw [parse_of (all1 (p_arg (by decide) (by decide)) (all1 (arg_of w1 (by decide) (by decide)) (all1 (arg_of w2 (by decide) (by decide)) rfl))) (by rw [List.all_cons, r3]; rfl)]
      rfl
  rw [if_neg hp] at hs
  by_cases hp : p = 10
  · rw [if_pos hp] at hs
    subst hp
    obtain ⟨la, lx⟩ := sm hs
    have := l0_of lx
    subst this
    obtain ⟨t, rfl⟩ := i1_of la
    obtain ⟨w1, _⟩ := each_cons (b := []) be
    refine ⟨⟨10, [t], [], .date t⟩, ⟨.date t, Nat.zero_le _⟩, flat_none (op := 10) rfl, ?_⟩
    rw [parse_of (all1 (p_arg (by decide) (by decide)) (all1 (arg_of w1 (by decide) (by decide)) rfl)) rfl]
    rfl
  rw [if_neg hp] at hs
  by_cases hp : p = 11
  · rw [if_pos hp] at hs
    subst hp
    obtain ⟨la, lx⟩ := sm hs
    have := l0_of lx
    subst this
    obtain ⟨i, t, u, v, rfl⟩ := i4_of la
    obtain ⟨w1, be⟩ := each_cons (b := [(-1000000000000000000, 1000000000000000000), (-1000000000000000000, 1000000000000000000), (-1000000000000000000, 1000000000000000000)]) be
    obtain ⟨w2, be⟩ := each_cons (b := [(-1000000000000000000, 1000000000000000000), (-1000000000000000000, 1000000000000000000)]) be
    obtain ⟨w3, be⟩ := each_cons (b := [(-1000000000000000000, 1000000000000000000)]) be
    obtain ⟨w4, _⟩ := each_cons (b := []) be
    refine ⟨⟨11, [i, t, u, v], [], .moment i t u v⟩, ⟨.moment i t u v, Nat.zero_le _⟩, flat_none (op := 11) rfl, ?_⟩
    rw [parse_of (all1 (p_arg (by decide) (by decide)) (all1 (arg_of w1 (by decide) (by decide)) (all1 (arg_of w2 (by decide) (by decide)) (all1 (arg_of w3 (by decide) (by decide)) (all1 (arg_of w4 (by decide) (by decide)) rfl))))) rfl]
    rfl
  rw [if_neg hp] at hs
  by_cases hp : p = 12
  · rw [if_pos hp] at hs
    subst hp
    obtain ⟨la, lx⟩ := sm hs
    have := l0_of lx
    subst this
    obtain ⟨t, rfl⟩ := i1_of la
    obtain ⟨w1, _⟩ := each_cons (b := []) be
    refine ⟨⟨12, [t], [], .sidereal t⟩, ⟨.sidereal t, Nat.zero_le _⟩, flat_none (op := 12) rfl, ?_⟩
    rw [parse_of (all1 (p_arg (by decide) (by decide)) (all1 (arg_of w1 (by decide) (by decide)) rfl)) rfl]
    rfl
  rw [if_neg hp] at hs
  by_cases hp : p = 13
  · rw [if_pos hp] at hs
    subst hp
    obtain ⟨la, lx⟩ := sm hs
    have := l0_of lx
    subst this
    obtain ⟨t, rfl⟩ := i1_of la
    obtain ⟨w1, _⟩ := each_cons (b := []) be
    refine ⟨⟨13, [t], [], .sines t⟩, ⟨.sines t, Nat.zero_le _⟩, flat_none (op := 13) rfl, ?_⟩
    rw [parse_of (all1 (p_arg (by decide) (by decide)) (all1 (arg_of w1 (by decide) (by decide)) rfl)) rfl]
    rfl
  rw [if_neg hp] at hs
  by_cases hp : p = 14
  · rw [if_pos hp] at hs
    subst hp
    obtain ⟨la, lx⟩ := sm hs
    have := l0_of lx
    subst this
    obtain ⟨x, y, rfl⟩ := i2_of la
    obtain ⟨w1, be⟩ := each_cons (b := [(-1000000000000000000, 1000000000000000000)]) be
    obtain ⟨w2, _⟩ := each_cons (b := []) be
    refine ⟨⟨14, [x, y], [], .angles x y⟩, ⟨.angles x y, Nat.zero_le _⟩, flat_none (op := 14) rfl, ?_⟩
    rw [parse_of (all1 (p_arg (by decide) (by decide)) (all1 (arg_of w1 (by decide) (by decide)) (all1 (arg_of w2 (by decide) (by decide)) rfl))) rfl]
    rfl
  rw [if_neg hp] at hs
  cases hs
theorem calls_are : ∀ (cs : List (List (List Int))), (∀ c ∈ cs, PyFlat.okCall PyDz01.shape c) → PyInside.calls PyDz01.bound cs = true → ∃ its : List Itm, (∀ x ∈ its, x.Ok) ∧ its.length = cs.length ∧ PyFlat.put cs = its.flatMap flat ∧ ∀ s, PyFlat.told (PyFlat.played Dz01Neutral.step s cs) = run s its
  | [], _, _ => ⟨[], fun x hx => (by cases hx), rfl, rfl, fun s => rfl⟩
  | c :: cs, h, b => by
    have b' : (PyInside.call PyDz01.bound c && PyInside.calls PyDz01.bound cs) = true := b
    rw [Bool.and_eq_true] at b'
    obtain ⟨x, ok, e1, e2⟩ := call_is (h c (List.mem_cons_self ..)) b'.1
    obtain ⟨its, k1, k2, k3, k4⟩ := calls_are cs (fun d hd => h d (List.mem_cons_of_mem _ hd)) b'.2
    refine ⟨x :: its, fun y hy => ?_, by rw [List.length_cons, List.length_cons, k2], ?_, fun s => ?_⟩
    · rcases List.mem_cons.mp hy with z | z
      · rw [z]
        exact ok
      · exact k1 y z
    · show PyFlat.put1 c ++ PyFlat.put cs = _
      rw [e1, k3, List.flatMap_cons]
    · have es : Dz01Neutral.step s c = ((Dz01.spec s x.c).1, outL (Dz01.spec s x.c).2) := by
        unfold Dz01Neutral.step
        rw [e2]
        rfl
      show (((Dz01Neutral.step s c).2.length : Int) :: (Dz01Neutral.step s c).2) ++ PyFlat.told (PyFlat.played Dz01Neutral.step (Dz01Neutral.step s c).1 cs) = _
      rw [es, k4]
      rfl
end
section
variable {P : Program} {w : World} {K : PySem.W.Frag} {mg : Str → Option Value} {base : Heap} {Ts : List (Addr × Str)} {Ct Cs : Addr}
theorem sc_has_row : FnScope ["operation"] ["operation"] (defScope (top 151)) := ⟨rfl, rfl, rfl, by decide +kernel, rfl, by decide +kernel, by decide +kernel⟩
theorem has_has_row (C : Ctx P w K mg base Ts Ct Cs) : Has P w K mg base "has_row" 1 ["operation"] (fun vs H Q _ => ∃ n : Nat, vs = [.int (n : Int)] ∧ Tabs Ts H ∧ ∀ H', Up Ts H H' → Q (.bl (hasR n)) H') := by
  refine has_of C.t.d_has_row sc_has_row (fun vs H Q E h => by obtain ⟨a, rfl, _⟩ := h; rfl) (fun _ _ _ _ _ _ us hl => match us, hl with | [_], _ => rfl) fun f cdv A outer s H vs Q E hr h => ⟨_, (pss_one (ps_ret (pe_cmpR op_in_seq (pv 0) (pe_tup (pa_cons (pe_gi C.t.LOAD) (pa_cons (pe_gi C.t.FIND) (pa_cons (pe_gi C.t.MATCH) pa_nil)))) rfl))), ?_⟩
  obtain ⟨n, rfl, tb, q⟩ := h
  walk_at "rx"
  refine ⟨by show 3 ≤ sizeLine; decide, fun p hp => ?_⟩
  refine ⟨p, [.int 0, .int 2, .int 9], rfl, .inr (SqT.of upd_same), rfl, rfl, ?_⟩
  have e : inV (.int (n : Int)) [.int 0, .int 2, .int 9] = hasR n := by
    show (eqV (.int ((0 : Nat) : Int)) (.int (n : Int)) || (eqV (.int ((2 : Nat) : Int)) (.int (n : Int)) || (eqV (.int ((9 : Nat) : Int)) (.int (n : Int)) || false))) = _
    rw [eqV_int, eqV_int, eqV_int, Bool.or_false]
    unfold hasR
    have s : ∀ a b : Nat, decide (a = b) = decide (b = a) := fun a b => decide_eq_decide.mpr ⟨Eq.symm, Eq.symm⟩
    rw [s 0 n, s 2 n, s 9 n]
  rw [e]
  exact q _ (Up.new tb hp)
theorem sc_split_calls : FnScope ["calls", "parts", "at", "operation", "end", "numbers", "row", "start"] ["calls"] (defScope (top 152)) := ⟨rfl, rfl, rfl, by decide +kernel, rfl, by decide +kernel, by decide +kernel⟩
/-- the parts of the calls, as tuples -/
def PartsX (X : Addr → Prop) (H : Hp) (ps : List Addr) (its : List Itm) : Prop := ps.length = its.length ∧ ∀ (i : Nat) (x : Itm), its[i]? = some x → ∃ p n rw, ps[i]? = some p ∧ H p = some (.tup [.int (x.op : Int), .ref n, .ref rw]) ∧ H n = some (.lst (vi x.a)) ∧ H rw = some (.lst (vn x.r)) ∧ X n ∧ X rw
theorem PartsX.up {X : Addr → Prop} {H H1 : Hp} {ps : List Addr} {its : List Itm} (h : PartsX X H ps its) (u : Kp Ts H H1) : PartsX X H1 ps its := ⟨h.1, fun i x e => by
  obtain ⟨p, n, rw, e1, e2, e3, e4, e5, e6⟩ := h.2 i x e
  exact ⟨p, n, rw, e1, u.2.1 _ _ e2, u.1 _ _ e3, u.1 _ _ e4, e5, e6⟩⟩
theorem PartsX.imp {X Y : Addr → Prop} {H : Hp} {ps : List Addr} {its : List Itm} (h : PartsX X H ps its) (k : ∀ x, X x → Y x) : PartsX Y H ps its := ⟨h.1, fun i x e => by
  obtain ⟨p, n, rw, e1, e2, e3, e4, e5, e6⟩ := h.2 i x e
  exact ⟨p, n, rw, e1, e2, e3, e4, k n e5, k rw e6⟩⟩
theorem PartsX.put {X : Addr → Prop} {H : Hp} {ps : List Addr} {its : List Itm} {D : Addr} {ys : List V} {o : HO} (h : PartsX X H ps its) (k : H D = some (.lst ys)) (n : ∀ x, X x → x ≠ D) : PartsX X (upd H D o) ps its := ⟨h.1, fun i x e => by
  obtain ⟨p, m, rw, e1, e2, e3, e4, e5, e6⟩ := h.2 i x e
  refine ⟨p, m, rw, e1, ?_, ?_, ?_, e5, e6⟩
  · rw [upd_ne (fun z => by rw [z, k] at e2; cases e2)]
    exact e2
  · rw [upd_ne (n m e5)]
    exact e3
  · rw [upd_ne (n rw e6)]
    exact e4⟩
theorem PartsX.snoc {X : Addr → Prop} {H : Hp} {ps : List Addr} {its : List Itm} {p n rw : Addr} {t : Itm} (h : PartsX X H ps its) (k1 : H p = some (.tup [.int (t.op : Int), .ref n, .ref rw])) (k2 : H n = some (.lst (vi t.a))) (k3 : H rw = some (.lst (vn t.r))) (k4 : X n) (k5 : X rw) : PartsX X H (ps ++ [p]) (its ++ [t]) := by
  refine ⟨by rw [List.length_append, List.length_append, h.1]; rfl, fun i x e => ?_⟩
  by_cases c : i < its.length
  · rw [List.getElem?_append_left c] at e
    obtain ⟨b, m, r, e1, e2⟩ := h.2 i x e
    exact ⟨b, m, r, by rw [List.getElem?_append_left (by rw [h.1]; exact c)]; exact e1, e2⟩
  · rw [List.getElem?_append_right (by omega)] at e
    have e0 : i - its.length = 0 := by
      by_cases z : i - its.length = 0
      · exact z
      · rw [List.getElem?_eq_none (by show 1 ≤ _; omega)] at e
        cases e
    rw [e0] at e
    have e' : t = x := Option.some.inj e
    subst e'
    refine ⟨p, n, rw, ?_, k1, k2, k3, k4, k5⟩
    rw [List.getElem?_append_right (by rw [h.1]; omega), h.1, e0]
    rfl
theorem cutV_any {xs : List V} {i j : Nat} : cutV xs (some (i : Int)) (some (j : Int)) = (xs.drop i).take (j - i) := by
  have e1 : ∀ (n d k : Nat), HT.sIx n d (some (k : Int)) = min k n := fun n d k => by
    show (if (k : Int) < 0 then ((k : Int) + (n : Int)).toNat else min (k : Int).toNat n) = _
    rw [if_neg (by omega)]
    omega
  unfold cutV
  rw [e1, e1]
  exact cut_ij rfl rfl
def cnts : List V := [.int 0, .int 1, .int 0, .int 0, .int 2, .int 4, .int 2, .int 3, .int 5, .int 2, .int 1, .int 4, .int 1, .int 1, .int 2]
theorem cnt_of {op : Nat} {a : List Int} {r : List Nat} {c : Dz01.Call} (h : Sh op a r c) : cnts[op]? = some (.int (a.length : Nat)) ∧ (hasR op = false → r = []) := by
  cases h <;> exact ⟨rfl, fun h => by first | rfl | cases h⟩
theorem vi_app (a b : List Int) : vi (a ++ b) = vi a ++ vi b := List.map_append
theorem mid_drop {α : Type} (a b c : List α) : (((a ++ b) ++ c).drop a.length).take b.length = b := by
  rw [List.append_assoc, List.drop_left, List.take_left]
theorem get_mid {α : Type} (a : List α) (x : α) (c : List α) : (a ++ x :: c)[a.length]? = some x := by
  rw [List.getElem?_append_right (Nat.le_refl _), Nat.sub_self]
  rfl
def spSplit (Ts : List (Addr × Str)) (K : PySem.W.Frag) : Sp := fun vs H Q _ => ∃ (a : Addr) (its : List Itm), vs = [.ref a] ∧ SqL K H a (vi (its.flatMap flat)) ∧ (∀ x ∈ its, x.Ok) ∧ its.length ≤ 40 ∧ Tabs Ts H ∧ ∀ H' p ps, Up Ts H H' → Nw H p → H' p = some (.lst (refs ps)) → PartsX (Nw H) H' ps its → Q (.ref p) H'
theorem has_split_calls (C : Ctx P w K mg base Ts Ct Cs) : Has P w K mg base "split_calls" 2 ["calls"] (spSplit Ts K) := by
  obtain ⟨aN, g_NUMBER_COUNTS, kN⟩ := C.t.NUMBER_COUNTS
  refine has_of C.t.d_split_calls sc_split_calls (fun vs H Q E h => by obtain ⟨a, _, rfl, _⟩ := h; rfl) (fun _ _ _ _ _ _ us hl => match us, hl with | [_], _ => rfl) fun f cdv A outer s H vs Q E hr h => ⟨_, (pss_cons (ps_set (i := 1) sc_split_calls.nd rfl (Or.inl rfl) (pe_lst pa_nil)) (pss_cons (ps_set (i := 2) sc_split_calls.nd rfl (Or.inl rfl) pe_int) (pss_cons (ps_while PassesOwn.never (pt_cmpR op_lt (pv 2) (pe_callB call_len_seq (by rfl) C.t.len_ (by decide +kernel) (pa_cons (pv 0) pa_nil)) (nomark _)) (pss_cons (ps_set (i := 3) sc_split_calls.nd rfl (Or.inl rfl) (pe_ix ix_list (pv 0) (pv 2) (fun _ _ => rfl))) (pss_cons (ps_set (i := 4) sc_split_calls.nd rfl (Or.inl rfl) (pe_op op_add (pe_op op_add (pv 2) pe_int) (pe_ix ix_tup (pe_gl g_NUMBER_COUNTS) (pv 3) (fun _ _ => rfl)))) (pss_cons (ps_set (i := 5) sc_split_calls.nd rfl (Or.inl rfl) (pe_slice sl_list (pv 0) (po_some (pe_op op_add (pv 2) pe_int)) (po_some (pv 4)))) (pss_cons (ps_set (i := 6) sc_split_calls.nd rfl (Or.inl rfl) (pe_lst pa_nil)) (pss_cons (ps_if (pt_val (pe_h (has_has_row C) (hr.mono (by decide)) rfl (pa_cons (pv 3) pa_nil))) (pss_cons (ps_set (i := 7) sc_split_calls.nd rfl (Or.inl rfl) (pe_op op_add (pv 4) pe_int)) (pss_cons (ps_set (i := 4) sc_split_calls.nd rfl (Or.inl rfl) (pe_op op_add (pv 7) (pe_ix ix_list (pv 0) (pv 4) (fun _ _ => rfl)))) (pss_one (ps_set (i := 6) sc_split_calls.nd rfl (Or.inl rfl) (pe_slice sl_list (pv 0) (po_some (pv 7)) (po_some (pv 4))))))) pss_nil) (pss_cons (ps_expr (pe_bm PySem.F.plainAttrs_list PySem.F.slot_list_append PySem.F.type_list_append mt_append (pv 1) (pa_cons (pe_tup (pa_cons (pv 3) (pa_cons (pv 5) (pa_cons (pv 6) pa_nil)))) pa_nil))) (pss_one (ps_set (i := 2) sc_split_calls.nd rfl (Or.inl rfl) (pv 4)))))))))) (pss_one (ps_ret (pv 1)))))), ?_⟩
  obtain ⟨a, its, rfl, ha, hok, h40, tb, q⟩ := h
  walk_at "rx"
  refine ⟨by show 0 ≤ sizeLine; decide, fun D hD => ?_⟩
  have nD := Nw.of hD
  have uD := Up.new (o := .lst []) tb hD
  walk_at "rx"
  refine ⟨fun m σ H' => ∃ (done rest : List Itm) (ps : List Addr) (v3 v4 v5 v6 v7 : Option V), σ = [some (.ref a), some (.ref D), some (.int ((done.flatMap flat).length : Nat)), v3, v4, v5, v6, v7] ∧ Up Ts H H' ∧ its = done ++ rest ∧ H' D = some (.lst (refs ps)) ∧ PartsX (fun x => Nw H x ∧ x ≠ D) H' ps done ∧ m = rest.length,
    ⟨its.length, [], its, [], none, none, none, none, none, rfl, uD, rfl, upd_same, ⟨rfl, fun i x e => by cases e⟩, rfl⟩, ?_⟩
  rintro m σ H' ⟨done, rest, ps, v3, v4, v5, v6, v7, rfl, u, hi, hD', PX, rfl⟩
  have ha' := u.seq ha
  have hfl : (its.flatMap flat).length = (done.flatMap flat).length + (rest.flatMap flat).length := by
    rw [hi, List.flatMap_append, List.length_append]
  walk_at "rx"
  refine ⟨a, vi (its.flatMap flat), rfl, .inl ha', ?_⟩
  rw [vi_len]
  walk_at "rx"
  match rest, hi, hfl with
  | [], hi, hfl =>
    refine rd_d (fun c => ?_) (fun c => ?_)
    · rw [hfl] at c
      rw [List.flatMap_nil, List.length_nil] at c
      omega
    rw [List.append_nil] at hi
    subst hi
    walk_at "rx"
    exact q H' D ps u nD hD' (PX.imp fun x h => h.1)
  | x :: rest, hi, hfl =>
    have hx : x ∈ its := by
      rw [hi]
      exact List.mem_append.mpr (.inr (List.mem_cons_self ..))
    obtain ⟨sh, r6⟩ := hok x hx
    obtain ⟨cn, cr⟩ := cnt_of sh
    have fpos : (flat x).length = 1 + x.a.length + (if hasR x.op = true then 1 + x.r.length else 0) := by
      unfold flat
      rw [List.length_append, List.length_cons]
      split
      · rw [List.length_cons]
        have : (Dz01.ints x.r).length = x.r.length := List.length_map ..
        omega
      · rw [List.length_nil]
        omega
    rw [List.flatMap_cons, List.length_append] at hfl
    refine rd_d (fun c => ?_) (fun c => ?_)
    · -- one call
      have ens : its.flatMap flat = done.flatMap flat ++ ((x.op : Int) :: (x.a ++ ((if hasR x.op = true then (x.r.length : Int) :: Dz01.ints x.r else []) ++ rest.flatMap flat))) := by
        rw [hi, List.flatMap_append, List.flatMap_cons]
        unfold flat
        simp only [List.append_assoc, List.cons_append]
      have ev : vi (its.flatMap flat) = vi (done.flatMap flat) ++ (V.int (x.op : Int) :: (vi x.a ++ (vi (if hasR x.op = true then (x.r.length : Int) :: Dz01.ints x.r else []) ++ vi (rest.flatMap flat)))) := by
        rw [ens, vi_app]
        congr 1
        show V.int (x.op : Int) :: vi _ = _
        rw [vi_app, vi_app]
      have dl : (vi (done.flatMap flat)).length = (done.flatMap flat).length := vi_len _
      have dn : done.length ≤ 40 := by
        rw [hi, List.length_append] at h40
        omega
      rw [ev] at ha'
      refine ⟨fun σ H'' => ∃ (done' rest' : List Itm) (ps : List Addr) (v3 v4 v5 v6 v7 : Option V), σ = [some (.ref a), some (.ref D), some (.int ((done'.flatMap flat).length : Nat)), v3, v4, v5, v6, v7] ∧ Up Ts H H'' ∧ its = done' ++ rest' ∧ H'' D = some (.lst (refs ps)) ∧ PartsX (fun x => Nw H x ∧ x ≠ D) H'' ps done' ∧ rest'.length < (x :: rest).length,
        fun σ H'' ⟨d', r', ps', v3, v4, v5, v6, v7, z1, z2, z3, z4, z5, z6⟩ => ⟨r'.length, z6, d', r', ps', v3, v4, v5, v6, v7, z1, z2, z3, z4, z5, rfl⟩, ?_⟩
      walk_at "rx"
      refine ⟨a, _, ((done.flatMap flat).length : Nat), .int (x.op : Int), rfl, rfl, ha', at_of (j := (done.flatMap flat).length) rfl (by rw [← dl]; exact get_mid ..), ?_⟩
      walk_at "rx"
      refine ⟨aN, cnts, (x.op : Nat), _, rfl, rfl, kN.sq H', at_of (j := x.op) rfl cn, ?_⟩
      walk_at "rx"
      have e0 : (((done.flatMap flat).length : Nat) : Int) + 1 = (((done.flatMap flat).length + 1 : Nat) : Int) := by omega
      have e1 : (((done.flatMap flat).length : Nat) : Int) + 1 + ((x.a.length : Nat) : Int) = (((done.flatMap flat).length + 1 + x.a.length : Nat) : Int) := by omega
      rw [e1, e0]
      refine ⟨a, _, rfl, ha', fun n hn => ?_⟩
      have ec : cutV (vi (done.flatMap flat) ++ (V.int (x.op : Int) :: (vi x.a ++ (vi (if hasR x.op = true then (x.r.length : Int) :: Dz01.ints x.r else []) ++ vi (rest.flatMap flat))))) (some (((done.flatMap flat).length + 1 : Nat) : Int)) (some (((done.flatMap flat).length + 1 + x.a.length : Nat) : Int)) = vi x.a := by
        rw [cutV_any]
        have k := mid_drop (vi (done.flatMap flat) ++ [V.int (x.op : Int)]) (vi x.a) (vi (if hasR x.op = true then (x.r.length : Int) :: Dz01.ints x.r else []) ++ vi (rest.flatMap flat))
        have l1 : (vi (done.flatMap flat) ++ [V.int (x.op : Int)]).length = (done.flatMap flat).length + 1 := by
          rw [List.length_append, dl]
          rfl
        have l2 : (done.flatMap flat).length + 1 + x.a.length - ((done.flatMap flat).length + 1) = (vi x.a).length := by
          rw [vi_len]
          omega
        rw [l1] at k
        rw [l2]
        simp only [List.append_assoc, List.singleton_append, List.cons_append, List.nil_append] at k ⊢
        exact k
      rw [ec]
      have u1 := u.new2 (o := .lst (vi x.a)) hn
      have nn : n ≠ D := fun z => by
        rw [z, hD'] at hn
        cases hn
      have hnw : Nw H n := Nw.back u (Nw.of hn)
      walk_at "rx"
      refine ⟨by show 0 ≤ sizeLine; decide, fun r0 hr0 => ?_⟩
      have u2 := u1.new2 (o := .lst []) hr0
      have nr0 : r0 ≠ D := fun z => by
        rw [z, upd_ne nn.symm, hD'] at hr0
        cases hr0
      have hr0w : Nw H r0 := Nw.back u1 (Nw.of hr0)
      walk_at "rx"
      refine ⟨x.op, rfl, u2.2, fun H3 u3 => ?_⟩
      have U3 := u2.trans u3
      have w3 := (Up.new (o := .lst (vi x.a)) u.2 hn).trans ((Up.new (o := .lst []) u1.2 hr0).trans u3)
      have hD3 := w3.lst hD'
      have P3 := PX.up (Kp.of w3)
      have hn3 : H3 n = some (.lst (vi x.a)) := u3.lst (by rw [upd_ne (ne_of_none upd_same hr0)]; exact upd_same)
      have hr3 : H3 r0 = some (.lst []) := u3.lst upd_same
      have ha3 := w3.seq ha'
      have psl : ps.length ≤ 40 := by
        rw [PX.1]
        exact dn
      walk_at "rx"
      refine rd_b (fun hr1 => ?_) (fun hr1 => ?_)
      · rw [if_pos hr1] at ha3 fpos ens ev
        have evr : vi ((x.r.length : Int) :: Dz01.ints x.r) = .int (x.r.length : Int) :: vn x.r := by
          rw [← vi_ints]
          rfl
        rw [evr] at ha3
        walk_at "rx"
        refine ⟨a, _, (((done.flatMap flat).length + 1 + x.a.length : Nat) : Int), .int (x.r.length : Int), rfl, rfl, ha3, at_of (j := (done.flatMap flat).length + 1 + x.a.length) rfl ?_, ?_⟩
        · have k := get_mid (vi (done.flatMap flat) ++ (V.int (x.op : Int) :: vi x.a)) (.int (x.r.length : Int)) (vn x.r ++ vi (rest.flatMap flat))
          have l1 : (vi (done.flatMap flat) ++ (V.int (x.op : Int) :: vi x.a)).length = (done.flatMap flat).length + 1 + x.a.length := by
            rw [List.length_append, List.length_cons, dl, vi_len]
            omega
          rw [l1] at k
          simp only [List.append_assoc, List.cons_append] at k ⊢
          exact k
        walk_at "rx"
        have e2 : (((done.flatMap flat).length + 1 + x.a.length : Nat) : Int) + 1 = (((done.flatMap flat).length + 1 + x.a.length + 1 : Nat) : Int) := by omega
        have e3 : (((done.flatMap flat).length + 1 + x.a.length : Nat) : Int) + 1 + ((x.r.length : Nat) : Int) = (((done.flatMap flat).length + 1 + x.a.length + 1 + x.r.length : Nat) : Int) := by omega
        rw [e3, e2]
        refine ⟨a, _, rfl, ha3, fun rw hrw => ?_⟩
        have ec2 : cutV (vi (done.flatMap flat) ++ (V.int (x.op : Int) :: (vi x.a ++ (V.int (x.r.length : Int) :: vn x.r ++ vi (rest.flatMap flat))))) (some (((done.flatMap flat).length + 1 + x.a.length + 1 : Nat) : Int)) (some (((done.flatMap flat).length + 1 + x.a.length + 1 + x.r.length : Nat) : Int)) = vn x.r := by
          rw [cutV_any]
          have k := mid_drop (vi (done.flatMap flat) ++ (V.int (x.op : Int) :: (vi x.a ++ [V.int (x.r.length : Int)]))) (vn x.r) (vi (rest.flatMap flat))
          have l1 : (vi (done.flatMap flat) ++ (V.int (x.op : Int) :: (vi x.a ++ [V.int (x.r.length : Int)]))).length = (done.flatMap flat).length + 1 + x.a.length + 1 := by
            rw [List.length_append, List.length_cons, List.length_append, dl, vi_len]
            show _ + (x.a.length + 1 + 1) = _
            omega
          have l2 : (done.flatMap flat).length + 1 + x.a.length + 1 + x.r.length - ((done.flatMap flat).length + 1 + x.a.length + 1) = (vn x.r).length := by
            rw [vn_len]
            omega
          rw [l1] at k
          rw [l2]
          simp only [List.append_assoc, List.singleton_append, List.cons_append, List.nil_append] at k ⊢
          exact k
        rw [ec2]
        have U4 := U3.new2 (o := .lst (vn x.r)) hrw
        have nrw : rw ≠ D := fun z => by
          rw [z, hD3] at hrw
          cases hrw
        have hrww : Nw H rw := Nw.back U3 (Nw.of hrw)
        have k4 := Up.new (o := .lst (vn x.r)) U3.2 hrw
        walk_at "rx"
        refine ⟨.inl ⟨rfl, _, SqL.of (k4.lst hD3)⟩, ?_⟩
        walk_at "rx"
        refine ⟨by show 3 ≤ sizeLine; decide, fun p hp => ?_⟩
        have U5 := U4.new2 (o := .tup [.int (x.op : Int), .ref n, .ref rw]) hp
        have k5 := k4.new2 (o := .tup [.int (x.op : Int), .ref n, .ref rw]) hp
        walk_at "rx"
        refine ⟨D, refs ps, .ref p, rfl, rfl, k5.lst hD3, Nat.lt_of_le_of_lt (by rw [refs_len]; exact psl) (show 40 < sizeLine by decide), ?_⟩
        walk_at "rx"
        have P5 := (P3.up (Kp.of k5)).snoc (t := x) (p := p) (n := n) (rw := rw) upd_same (k5.lst hn3) (by rw [upd_ne (ne_of_none upd_same hp)]; exact upd_same) ⟨hnw, nn⟩ ⟨hrww, nrw⟩
        have ef : (((done.flatMap flat).length + 1 + x.a.length + 1 + x.r.length : Nat) : Int) = ((((done ++ [x]).flatMap flat).length : Nat) : Int) := by
          rw [List.flatMap_append, List.length_append, List.flatMap_singleton, fpos]
          omega
        rw [ef]
        exact ⟨done ++ [x], rest, ps ++ [p], _, _, _, _, _, rfl, U5.mut nD (k5.lst hD3), by rw [hi, List.append_assoc]; rfl, by rw [upd_same, refs_snoc], P5.put (k5.lst hD3) fun x h => h.2, Nat.lt_succ_self _⟩
      · rw [if_neg (by rw [hr1]; decide)] at fpos
        have er := cr hr1
        walk_at "rx"
        refine ⟨.inl ⟨rfl, _, SqL.of hD3⟩, ?_⟩
        walk_at "rx"
        refine ⟨by show 3 ≤ sizeLine; decide, fun p hp => ?_⟩
        have U5 := U3.new2 (o := .tup [.int (x.op : Int), .ref n, .ref r0]) hp
        have k5 := Up.new (o := .tup [.int (x.op : Int), .ref n, .ref r0]) U3.2 hp
        walk_at "rx"
        refine ⟨D, refs ps, .ref p, rfl, rfl, k5.lst hD3, Nat.lt_of_le_of_lt (by rw [refs_len]; exact psl) (show 40 < sizeLine by decide), ?_⟩
        walk_at "rx"
        have P5 := (P3.up (Kp.of k5)).snoc (t := x) (p := p) (n := n) (rw := r0) upd_same (k5.lst hn3) (by rw [er]; exact k5.lst hr3) ⟨hnw, nn⟩ ⟨hr0w, nr0⟩
        have ef : (((done.flatMap flat).length + 1 + x.a.length : Nat) : Int) = ((((done ++ [x]).flatMap flat).length : Nat) : Int) := by
          rw [List.flatMap_append, List.length_append, List.flatMap_singleton, fpos]
          omega
        rw [ef]
        exact ⟨done ++ [x], rest, ps ++ [p], _, _, _, _, _, rfl, U5.mut nD (k5.lst hD3), by rw [hi, List.append_assoc]; rfl, by rw [upd_same, refs_snoc], P5.put (k5.lst hD3) fun x h => h.2, Nat.lt_succ_self _⟩
    · exfalso
      rw [hfl] at c
      omega
end
section
variable {P : Program} {w : World} {K : PySem.W.Frag} {mg : Str → Option Value} {base : Heap} {Ts : List (Addr × Str)} {Ct Cs : Addr}
theorem sc_conversion_answer : FnScope ["operation", "numbers"] ["operation", "numbers"] (defScope (top 153)) := ⟨rfl, rfl, rfl, by decide +kernel, rfl, by decide +kernel, by decide +kernel⟩
theorem out_date (ss : List Dz01.Star) (t : Int) : outL (Dz01.spec ss (.date t)).2 = dateAns t := by
  show outL (if Dz01.timeOkay t = false then Dz01.failed (-2) else ⟨(Dz01.dateOf t).1, [(Dz01.dateOf t).2.1, (Dz01.dateOf t).2.2.1, (Dz01.dateOf t).2.2.2]⟩) = _
  unfold dateAns
  by_cases h : Dz01.timeOkay t = false
  · rw [if_pos h, if_pos h]
    rfl
  · rw [if_neg h, if_neg h]
    rfl
theorem out_moment (ss : List Dz01.Star) (y m d x : Int) : outL (Dz01.spec ss (.moment y m d x)).2 = momAns y m d x := by
  show outL (if y < 1700 ∨ 2300 < y ∨ m < 1 ∨ 12 < m ∨ d < 1 ∨ Dz01.monthDays y m < d ∨ x < 0 ∨ 86400 ≤ x then Dz01.failed (-2) else ⟨0, [Dz01.momentOf y m d x]⟩) = _
  unfold momAns isDate
  by_cases h : y < 1700 ∨ 2300 < y ∨ m < 1 ∨ 12 < m ∨ d < 1 ∨ Dz01.monthDays y m < d ∨ x < 0 ∨ 86400 ≤ x
  · rw [if_pos h, decide_eq_true h]
    rfl
  · rw [if_neg h, decide_eq_false h]
    rfl
theorem out_sidereal (ss : List Dz01.Star) (t : Int) : outL (Dz01.spec ss (.sidereal t)).2 = sidAns t := by
  show outL (if Dz01.timeOkay t = false then Dz01.failed (-2) else ⟨Dz01.siderealTime t, []⟩) = _
  unfold sidAns
  by_cases h : Dz01.timeOkay t = false
  · rw [if_pos h, if_pos h]
    rfl
  · rw [if_neg h, if_neg h]
    rfl
theorem out_sines (ss : List Dz01.Star) (a : Int) : outL (Dz01.spec ss (.sines a)).2 = sinAns a := rfl
theorem out_angles (ss : List Dz01.Star) (x y : Int) : outL (Dz01.spec ss (.angles x y)).2 = angAns x y := by
  show outL (if Dz01.ONE < (x.natAbs : Int) ∨ Dz01.ONE < (y.natAbs : Int) then Dz01.failed (-2) else ⟨Dz01.direction x y, [Dz01.arcsin y]⟩) = _
  unfold angAns
  by_cases h : Dz01.ONE < (x.natAbs : Int) ∨ Dz01.ONE < (y.natAbs : Int)
  · rw [if_pos h, if_pos h]
    rfl
  · rw [if_neg h, if_neg h]
    rfl
def spConv (Ts : List (Addr × Str)) : Sp := fun vs H Q _ => ∃ (n : Addr) (op : Nat) (a : List Int) (c : Dz01.Call) (ss : List Dz01.Star), vs = [.int (op : Int), .ref n] ∧ 10 ≤ op ∧ Sh op a [] c ∧ H n = some (.lst (vi a)) ∧ Tabs Ts H ∧ RetI Ts H Q (outL (Dz01.spec ss c).2)
theorem vi_get {l : List Int} {i : Nat} {n : Int} (h : l[i]? = some n) : (vi l)[i]? = some (.int n) := by
  unfold vi
  rw [List.getElem?_map, h]
  rfl
theorem has_conversion_answer (C : Ctx P w K mg base Ts Ct Cs) : Has P w K mg base "conversion_answer" 11 ["operation", "numbers"] (spConv Ts) := by
  refine has_of C.t.d_conversion_answer sc_conversion_answer (fun vs H Q E h => by obtain ⟨_, _, _, _, _, rfl, _⟩ := h; rfl) (fun _ _ _ _ _ _ us hl => match us, hl with | [_, _], _ => rfl) fun f cdv A outer s H vs Q E hr h => ⟨_, (pss_cons (ps_if (pt_cmpR op_eq (pv 0) (pe_gi C.t.DATE) (nomark _)) (pss_one (ps_ret (pe_h (has_date_answer C) (hr.mono (by decide)) rfl (pa_cons (pe_ix ix_list (pv 1) pe_int (fun _ _ => rfl)) pa_nil)))) pss_nil) (pss_cons (ps_if (pt_cmpR op_eq (pv 0) (pe_gi C.t.MOMENT) (nomark _)) (pss_one (ps_ret (pe_h (has_moment_answer C) (hr.mono (by decide)) rfl (pa_cons (pe_ix ix_list (pv 1) pe_int (fun _ _ => rfl)) (pa_cons (pe_ix ix_list (pv 1) pe_int (fun _ _ => rfl)) (pa_cons (pe_ix ix_list (pv 1) pe_int (fun _ _ => rfl)) (pa_cons (pe_ix ix_list (pv 1) pe_int (fun _ _ => rfl)) pa_nil))))))) pss_nil) (pss_cons (ps_if (pt_cmpR op_eq (pv 0) (pe_gi C.t.SIDEREAL) (nomark _)) (pss_one (ps_ret (pe_h (has_sidereal_answer C) (hr.mono (by decide)) rfl (pa_cons (pe_ix ix_list (pv 1) pe_int (fun _ _ => rfl)) pa_nil)))) pss_nil) (pss_cons (ps_if (pt_cmpR op_eq (pv 0) (pe_gi C.t.SINES) (nomark _)) (pss_one (ps_ret (pe_h (has_sines_answer C) (hr.mono (by decide)) rfl (pa_cons (pe_ix ix_list (pv 1) pe_int (fun _ _ => rfl)) pa_nil)))) pss_nil) (pss_one (ps_ret (pe_h (has_angles_answer C) (hr.mono (by decide)) rfl (pa_cons (pe_ix ix_list (pv 1) pe_int (fun _ _ => rfl)) (pa_cons (pe_ix ix_list (pv 1) pe_int (fun _ _ => rfl)) pa_nil))))))))), ?_⟩
  obtain ⟨n, op, a, c, ss, rfl, h10, sh, hn, tb, q⟩ := h
  have ix : ∀ (i : Nat) (z : Int), a[i]? = some z → ∀ R : V → Hp → Prop, R (.int z) H → rIxL K (.ref n) (.int (i : Int)) H R := fun i z e R r => ⟨n, _, (i : Int), _, rfl, rfl, SqL.of hn, at_of (j := i) rfl (vi_get e), r⟩
  cases sh with
  | date t =>
    rw [out_date] at q
    walk_at "rx"
    refine rd_d (fun c => ?_) (fun c => absurd rfl c)
    walk_at "rx"
    refine ix 0 _ rfl _ ?_
    walk_at "rx"
    exact ⟨_, rfl, tb, q⟩
  | moment y m d x =>
    rw [out_moment] at q
    walk_at "rx"
    refine rd_d (fun c => by cases c) (fun c => ?_)
    walk_at "rx"
    refine rd_d (fun c => ?_) (fun c => absurd rfl c)
    walk_at "rx"
    refine ix 0 _ rfl _ ?_
    walk_at "rx"
    refine ix 1 _ rfl _ ?_
    walk_at "rx"
    refine ix 2 _ rfl _ ?_
    walk_at "rx"
    refine ix 3 _ rfl _ ?_
    walk_at "rx"
    exact ⟨_, _, _, _, rfl, tb, q⟩
  | sidereal t =>
    rw [out_sidereal] at q
    walk_at "rx"
    refine rd_d (fun c => by cases c) (fun c => ?_)
    walk_at "rx"
    refine rd_d (fun c => by cases c) (fun c => ?_)
    walk_at "rx"
    refine rd_d (fun c => ?_) (fun c => absurd rfl c)
    walk_at "rx"
    refine ix 0 _ rfl _ ?_
    walk_at "rx"
    exact ⟨_, rfl, tb, q⟩
  | sines t =>
    rw [out_sines] at q
    walk_at "rx"
    refine rd_d (fun c => by cases c) (fun c => ?_)
    walk_at "rx"
    refine rd_d (fun c => by cases c) (fun c => ?_)
    walk_at "rx"
    refine rd_d (fun c => by cases c) (fun c => ?_)
    walk_at "rx"
    refine rd_d (fun c => ?_) (fun c => absurd rfl c)
    walk_at "rx"
    refine ix 0 _ rfl _ ?_
    walk_at "rx"
    exact ⟨_, rfl, tb, q⟩
  | angles x y =>
    rw [out_angles] at q
    walk_at "rx"
    refine rd_d (fun c => by cases c) (fun c => ?_)
    walk_at "rx"
    refine rd_d (fun c => by cases c) (fun c => ?_)
    walk_at "rx"
    refine rd_d (fun c => by cases c) (fun c => ?_)
    walk_at "rx"
    refine rd_d (fun c => by cases c) (fun c => ?_)
    walk_at "rx"
    refine ix 0 _ rfl _ ?_
    walk_at "rx"
    refine ix 1 _ rfl _ ?_
    walk_at "rx"
    exact ⟨_, _, rfl, tb, q⟩
  | load => omega
  | star => omega
  | find => omega
  | expo => omega
  | place => omega
  | horizon => omega
  | ecliptic => omega
  | separation => omega
  | cone => omega
  | mat => omega
end
section
variable {P : Program} {w : World} {K : PySem.W.Frag} {mg : Str → Option Value} {base : Heap} {Ts : List (Addr × Str)} {Ct Cs : Addr}
theorem sc_answer_to : FnScope ["session", "operation", "numbers", "row"] ["session", "operation", "numbers", "row"] (defScope (top 154)) := ⟨rfl, rfl, rfl, by decide +kernel, rfl, by decide +kernel, by decide +kernel⟩
theorem spec_st {op : Nat} {a : List Int} {r : List Nat} {c : Dz01.Call} (h : Sh op a r c) (h0 : op ≠ 0) (ss : List Dz01.Star) : (Dz01.spec ss c).1 = ss := by
  cases h with
  | load => exact absurd rfl h0
  | star i =>
    show (match ss[i]? with
      | none => (ss, Dz01.failed (-3))
      | some x => (ss, (⟨x.ra, [x.dec, x.magnitude, x.motionRa, x.motionDec, (x.name.length : Int)] ++ Dz01.ints x.name⟩ : Dz01.Outcome))).1 = ss
    cases ss[i]? <;> rfl
  | find n =>
    show (match ss.findIdx? fun x : Dz01.Star => x.name == r with
      | none => (ss, Dz01.failed (-3))
      | some i => (ss, (⟨(i : Int), []⟩ : Dz01.Outcome))).1 = ss
    cases ss.findIdx? (fun x : Dz01.Star => x.name == r) <;> rfl
  | expo => rfl
  | place i t =>
    show (match ss[i]? with
      | none => (ss, Dz01.failed (-3))
      | some x => (ss, if Dz01.timeOkay t = false then Dz01.failed (-2) else Dz01.two (Dz01.lonLat (Dz01.place x t)))).1 = ss
    cases ss[i]? <;> rfl
  | horizon i t u v =>
    show (match ss[i]? with
      | none => (ss, Dz01.failed (-3))
      | some x => (ss, if Dz01.timeOkay t = false ∨ Dz01.siteOkay ⟨u, v⟩ = false then Dz01.failed (-2) else Dz01.two (Dz01.azimuthAltitude ⟨u, v⟩ t (Dz01.place x t)))).1 = ss
    cases ss[i]? <;> rfl
  | ecliptic i t =>
    show (match ss[i]? with
      | none => (ss, Dz01.failed (-3))
      | some x => (ss, if Dz01.timeOkay t = false then Dz01.failed (-2) else Dz01.two (Dz01.lonLat (Dz01.toEcliptic (Dz01.place x t))))).1 = ss
    cases ss[i]? <;> rfl
  | separation i j t =>
    show (match ss[i]?, ss[j]? with
      | some x, some y => (ss, if Dz01.timeOkay t = false then Dz01.failed (-2) else ⟨Dz01.separation (Dz01.place x t) (Dz01.place y t), []⟩)
      | _, _ => (ss, Dz01.failed (-3))).1 = ss
    cases ss[i]? <;> cases ss[j]? <;> rfl
  | cone => rfl
  | mat d t =>
    show (if Dz01.timeOkay t = false then (ss, Dz01.failed (-2)) else if Dz01.textOkay 6000 r = false then (ss, Dz01.failed (-1)) else match Dz01.readCatalogue r with
      | .error e => (ss, (⟨-10 - (e.1 : Int), [(e.2 : Int)]⟩ : Dz01.Outcome))
      | .ok ys => (ss, matO ss d t ys)).1 = ss
    split
    · rfl
    · split
      · rfl
      · cases Dz01.readCatalogue r <;> rfl
  | date => rfl
  | moment => rfl
  | sidereal => rfl
  | sines => rfl
  | angles => rfl
theorem ses_ret {X : Addr → Prop} {H : Hp} {Q : VK} {sa : Addr} {ss : List Dz01.Star} {op : Nat} {a : List Int} {r : List Nat} {c : Dz01.Call} (h : Sh op a r c) (h0 : op ≠ 0) (hs : SesAt X Ct Cs H sa ss) (q : RetS Ts X Ct Cs H Q sa ss c) : RetI Ts H Q (outL (Dz01.spec ss c).2) := fun H' p u n e =>
  q H' p (Kp.of u) (by rw [spec_st h h0]; exact hs.up u) n e
def spAns (Ts : List (Addr × Str)) (Ct Cs : Addr) : Sp := fun vs H Q _ => ∃ (X : Addr → Prop) (sa n rw : Addr) (op : Nat) (a : List Int) (r : List Nat) (c : Dz01.Call) (ss : List Dz01.Star), vs = [.ref sa, .int (op : Int), .ref n, .ref rw] ∧ Sh op a r c ∧ r.length ≤ 6100 ∧ H n = some (.lst (vi a)) ∧ H rw = some (.lst (vn r)) ∧ SesAt X Ct Cs H sa ss ∧ (∀ na, Nw H na → X na) ∧ Tabs Ts H ∧ RetS Ts X Ct Cs H Q sa ss c
theorem has_answer_to (C : Ctx P w K mg base Ts Ct Cs) : Has P w K mg base "answer_to" 13 ["session", "operation", "numbers", "row"] (spAns Ts Ct Cs) := by
  refine has_of C.t.d_answer_to sc_answer_to (fun vs H Q E h => by obtain ⟨_, _, _, _, _, _, _, _, _, rfl, _⟩ := h; rfl) (fun _ _ _ _ _ _ us hl => match us, hl with | [_, _, _, _], _ => rfl) fun f cdv A outer s H vs Q E hr h => ⟨_, (pss_cons (ps_if (pt_cmpR op_eq (pv 1) (pe_gi C.t.LOAD) (nomark _)) (pss_one (ps_ret (pe_ms (meth_load C) (hr.mono (by decide)) (pv 0) (pa_cons (pv 3) pa_nil)))) pss_nil) (pss_cons (ps_if (pt_cmpR op_eq (pv 1) (pe_gi C.t.STAR) (nomark _)) (pss_one (ps_ret (pe_ms (meth_describe C) (hr.mono (by decide)) (pv 0) (pa_cons (pe_ix ix_list (pv 2) pe_int (fun _ _ => rfl)) pa_nil)))) pss_nil) (pss_cons (ps_if (pt_cmpR op_eq (pv 1) (pe_gi C.t.FIND) (nomark _)) (pss_one (ps_ret (pe_ms (meth_search_name C) (hr.mono (by decide)) (pv 0) (pa_cons (pv 3) pa_nil)))) pss_nil) (pss_cons (ps_if (pt_cmpR op_eq (pv 1) (pe_gi C.t.EXPORT) (nomark _)) (pss_one (ps_ret (pe_ms0 (meth_export C) (hr.mono (by decide)) (pv 0)))) pss_nil) (pss_cons (ps_if (pt_cmpR op_eq (pv 1) (pe_gi C.t.PLACE) (nomark _)) (pss_one (ps_ret (pe_ms (meth_place C) (hr.mono (by decide)) (pv 0) (pa_cons (pe_ix ix_list (pv 2) pe_int (fun _ _ => rfl)) (pa_cons (pe_ix ix_list (pv 2) pe_int (fun _ _ => rfl)) pa_nil))))) pss_nil) (pss_cons (ps_if (pt_cmpR op_eq (pv 1) (pe_gi C.t.HORIZON) (nomark _)) (pss_one (ps_ret (pe_ms (meth_horizon C) (hr.mono (by decide)) (pv 0) (pa_cons (pe_ix ix_list (pv 2) pe_int (fun _ _ => rfl)) (pa_cons (pe_ix ix_list (pv 2) pe_int (fun _ _ => rfl)) (pa_cons (pe_ix ix_list (pv 2) pe_int (fun _ _ => rfl)) (pa_cons (pe_ix ix_list (pv 2) pe_int (fun _ _ => rfl)) pa_nil))))))) pss_nil) (pss_cons (ps_if (pt_cmpR op_eq (pv 1) (pe_gi C.t.ECLIPTIC) (nomark _)) (pss_one (ps_ret (pe_ms (meth_ecliptic C) (hr.mono (by decide)) (pv 0) (pa_cons (pe_ix ix_list (pv 2) pe_int (fun _ _ => rfl)) (pa_cons (pe_ix ix_list (pv 2) pe_int (fun _ _ => rfl)) pa_nil))))) pss_nil) (pss_cons (ps_if (pt_cmpR op_eq (pv 1) (pe_gi C.t.SEPARATION) (nomark _)) (pss_one (ps_ret (pe_ms (meth_separation C) (hr.mono (by decide)) (pv 0) (pa_cons (pe_ix ix_list (pv 2) pe_int (fun _ _ => rfl)) (pa_cons (pe_ix ix_list (pv 2) pe_int (fun _ _ => rfl)) (pa_cons (pe_ix ix_list (pv 2) pe_int (fun _ _ => rfl)) pa_nil)))))) pss_nil) (pss_cons (ps_if (pt_cmpR op_eq (pv 1) (pe_gi C.t.CONE) (nomark _)) (pss_one (ps_ret (pe_ms (meth_cone C) (hr.mono (by decide)) (pv 0) (pa_cons (pe_ix ix_list (pv 2) pe_int (fun _ _ => rfl)) (pa_cons (pe_ix ix_list (pv 2) pe_int (fun _ _ => rfl)) (pa_cons (pe_ix ix_list (pv 2) pe_int (fun _ _ => rfl)) (pa_cons (pe_ix ix_list (pv 2) pe_int (fun _ _ => rfl)) (pa_cons (pe_ix ix_list (pv 2) pe_int (fun _ _ => rfl)) pa_nil)))))))) pss_nil) (pss_cons (ps_if (pt_cmpR op_eq (pv 1) (pe_gi C.t.MATCH) (nomark _)) (pss_one (ps_ret (pe_ms (meth_match_with C) (hr.mono (by decide)) (pv 0) (pa_cons (pe_ix ix_list (pv 2) pe_int (fun _ _ => rfl)) (pa_cons (pe_ix ix_list (pv 2) pe_int (fun _ _ => rfl)) (pa_cons (pv 3) pa_nil)))))) pss_nil) (pss_one (ps_ret (pe_h (has_conversion_answer C) (hr.mono (by decide)) rfl (pa_cons (pv 1) (pa_cons (pv 2) pa_nil))))))))))))))), ?_⟩
  obtain ⟨X, sa, n, rw, op, a, r, c, ss, rfl, sh, r6, hn, hrw, hses, hX, tb, q⟩ := h
  have ix : ∀ (i : Nat) (z : Int), a[i]? = some z → ∀ R : V → Hp → Prop, R (.int z) H → rIxL K (.ref n) (.int (i : Int)) H R := fun i z e R r => ⟨n, _, (i : Int), _, rfl, rfl, SqL.of hn, at_of (j := i) rfl (vi_get e), r⟩
  obtain ⟨dx, l, as, e1, _⟩ := id hses
  by_cases h0 : op = 0
  · subst h0
    cases sh
    walk_at "rx"
    refine rd_d (fun c => ?_) (fun c => absurd rfl c)
    walk_at "rx"
    refine ⟨sa, dx, _, rfl, e1, rfl, ?_⟩
    walk_at "rx"
    exact ⟨X, sa, rw, r, ss, rfl, hrw, r6, hses, hX, tb, q⟩
  have q := ses_ret sh h0 hses q
  have sr : SesAt X Ct Cs H sa ss ∧ Tabs Ts H ∧ RetI Ts H Q (outL (Dz01.spec ss c).2) := ⟨hses, tb, q⟩
  have no : ∀ k : Nat, op ≠ k → ¬ ((op : Int) = (k : Int)) := fun k h z => h (by omega)
  walk_at "rx"
  refine rd_d (fun c => absurd c (no 0 h0)) (fun _ => ?_)
  walk_at "rx"
  by_cases h1 : op = 1
  · subst h1
    cases sh
    refine rd_d (fun c => ?_) (fun c => absurd rfl c)
    walk_at "rx"
    refine ⟨sa, dx, _, rfl, e1, rfl, ?_⟩
    walk_at "rx"
    refine ix 0 _ rfl _ ?_
    walk_at "rx"
    exact ⟨X, sa, _, ss, rfl, sr⟩
  refine rd_d (fun c => absurd c (no 1 h1)) (fun _ => ?_)
  walk_at "rx"
  by_cases h2 : op = 2
  · subst h2
    cases sh
    refine rd_d (fun c => ?_) (fun c => absurd rfl c)
    walk_at "rx"
    refine ⟨sa, dx, _, rfl, e1, rfl, ?_⟩
    walk_at "rx"
    exact ⟨X, sa, rw, r, ss, rfl, hrw, sr⟩
  refine rd_d (fun c => absurd c (no 2 h2)) (fun _ => ?_)
  walk_at "rx"
  by_cases h3 : op = 3
  · subst h3
    cases sh
    refine rd_d (fun c => ?_) (fun c => absurd rfl c)
    walk_at "rx"
    refine ⟨sa, dx, _, rfl, e1, rfl, ?_⟩
    walk_at "rx"
    exact ⟨X, sa, ss, rfl, sr⟩
  refine rd_d (fun c => absurd c (no 3 h3)) (fun _ => ?_)
  walk_at "rx"
  by_cases h4 : op = 4
  · subst h4
    cases sh
    refine rd_d (fun c => ?_) (fun c => absurd rfl c)
    walk_at "rx"
    refine ⟨sa, dx, _, rfl, e1, rfl, ?_⟩
    walk_at "rx"
    refine ix 0 _ rfl _ ?_
    walk_at "rx"
    refine ix 1 _ rfl _ ?_
    walk_at "rx"
    exact ⟨X, sa, _, _, ss, rfl, sr⟩
  refine rd_d (fun c => absurd c (no 4 h4)) (fun _ => ?_)
  walk_at "rx"
  by_cases h5 : op = 5
  · subst h5
    cases sh
    refine rd_d (fun c => ?_) (fun c => absurd rfl c)
    walk_at "rx"
    refine ⟨sa, dx, _, rfl, e1, rfl, ?_⟩
    walk_at "rx"
    refine ix 0 _ rfl _ ?_
    walk_at "rx"
    refine ix 1 _ rfl _ ?_
    walk_at "rx"
    refine ix 2 _ rfl _ ?_
    walk_at "rx"
    refine ix 3 _ rfl _ ?_
    walk_at "rx"
    exact ⟨X, sa, _, _, _, _, ss, rfl, sr⟩
  refine rd_d (fun c => absurd c (no 5 h5)) (fun _ => ?_)
  walk_at "rx"
  by_cases h6 : op = 6
  · subst h6
    cases sh
    refine rd_d (fun c => ?_) (fun c => absurd rfl c)
    walk_at "rx"
    refine ⟨sa, dx, _, rfl, e1, rfl, ?_⟩
    walk_at "rx"
    refine ix 0 _ rfl _ ?_
    walk_at "rx"
    refine ix 1 _ rfl _ ?_
    walk_at "rx"
    exact ⟨X, sa, _, _, ss, rfl, sr⟩
  refine rd_d (fun c => absurd c (no 6 h6)) (fun _ => ?_)
  walk_at "rx"
  by_cases h7 : op = 7
  · subst h7
    cases sh
    refine rd_d (fun c => ?_) (fun c => absurd rfl c)
    walk_at "rx"
    refine ⟨sa, dx, _, rfl, e1, rfl, ?_⟩
    walk_at "rx"
    refine ix 0 _ rfl _ ?_
    walk_at "rx"
    refine ix 1 _ rfl _ ?_
    walk_at "rx"
    refine ix 2 _ rfl _ ?_
    walk_at "rx"
    exact ⟨X, sa, _, _, _, ss, rfl, sr⟩
  refine rd_d (fun c => absurd c (no 7 h7)) (fun _ => ?_)
  walk_at "rx"
  by_cases h8 : op = 8
  · subst h8
    cases sh
    refine rd_d (fun c => ?_) (fun c => absurd rfl c)
    walk_at "rx"
    refine ⟨sa, dx, _, rfl, e1, rfl, ?_⟩
    walk_at "rx"
    refine ix 0 _ rfl _ ?_
    walk_at "rx"
    refine ix 1 _ rfl _ ?_
    walk_at "rx"
    refine ix 2 _ rfl _ ?_
    walk_at "rx"
    refine ix 3 _ rfl _ ?_
    walk_at "rx"
    refine ix 4 _ rfl _ ?_
    walk_at "rx"
    exact ⟨X, sa, _, _, _, _, _, ss, rfl, sr⟩
  refine rd_d (fun c => absurd c (no 8 h8)) (fun _ => ?_)
  walk_at "rx"
  by_cases h9 : op = 9
  · subst h9
    cases sh
    refine rd_d (fun c => ?_) (fun c => absurd rfl c)
    walk_at "rx"
    refine ⟨sa, dx, _, rfl, e1, rfl, ?_⟩
    walk_at "rx"
    refine ix 0 _ rfl _ ?_
    walk_at "rx"
    refine ix 1 _ rfl _ ?_
    walk_at "rx"
    exact ⟨X, sa, rw, _, _, r, ss, rfl, hrw, r6, sr⟩
  refine rd_d (fun c => absurd c (no 9 h9)) (fun _ => ?_)
  walk_at "rx"
  have h10 : 10 ≤ op := by
    cases sh <;> omega
  have er : r = [] := by
    cases sh <;> first | rfl | omega
  subst er
  exact ⟨n, op, a, c, ss, rfl, h10, sh, hn, tb, q⟩
theorem sc_answers : FnScope ["calls", "session", "results", "operation", "numbers", "row", "result"] ["calls"] (defScope (top 155)) := ⟨rfl, rfl, rfl, by decide +kernel, rfl, by decide +kernel, by decide +kernel⟩
theorem SesAt.put {X : Addr → Prop} {H : Hp} {sa D : Addr} {ss : List Dz01.Star} {ys : List V} {o : HO} (h : SesAt X Ct Cs H sa ss) (k : H D = some (.lst ys)) (n : ∀ x, X x → x ≠ D) : SesAt X Ct Cs (upd H D o) sa ss := by
  obtain ⟨dx, l, as, e1, e2, e3, e4, e5⟩ := h
  refine ⟨dx, l, as, ?_, ?_, e3.put k n, e4, e5⟩
  · rw [upd_ne (fun z => by rw [z, k] at e1; cases e1)]
    exact e1
  · rw [upd_ne (n l e5)]
    exact e2
def spAnswers (Ts : List (Addr × Str)) (K : PySem.W.Frag) : Sp := fun vs H Q _ => ∃ (a : Addr) (its : List Itm), vs = [.ref a] ∧ SqL K H a (vi (its.flatMap flat)) ∧ (∀ x ∈ its, x.Ok) ∧ its.length ≤ 40 ∧ (run [] its).length ≤ 10000000 ∧ Tabs Ts H ∧ ∀ H' p, H' p = some (.lst (vi (run [] its))) → Q (.ref p) H'
theorem fn_answers {f : Addr} {fd : FuncData} (C : Ctx P w K mg base Ts Ct Cs) (F : Fun K "answers" "answers" (top 155) f fd) : FnOk P w K mg base CX0 14 f fd ["calls"] (spAnswers Ts K) := by
  refine fnok_of F sc_answers (fun vs H Q E h => by obtain ⟨a, _, rfl, _⟩ := h; rfl) fun cdv A outer s H vs Q E hr h => ⟨_, (pss_cons (ps_set (i := 1) sc_answers.nd rfl (Or.inl rfl) (pe_mkSession C (hr.mono (by decide)))) (pss_cons (ps_set (i := 2) sc_answers.nd rfl (Or.inl rfl) (pe_lst pa_nil)) (pss_cons (ps_for PassesOwn.never rfl (pi_list (pe_h (has_split_calls C) (hr.mono (by decide)) rfl (pa_cons (pv 0) pa_nil))) (pg_tup rfl (pgs_cons (pg_name (i := 3) sc_answers.nd rfl (Or.inl rfl)) (pgs_cons (pg_name (i := 4) sc_answers.nd rfl (Or.inl rfl)) (pgs_cons (pg_name (i := 5) sc_answers.nd rfl (Or.inl rfl)) pgs_nil)))) (pss_cons (ps_set (i := 6) sc_answers.nd rfl (Or.inl rfl) (pe_h (has_answer_to C) (hr.mono (by decide)) rfl (pa_cons (pv 1) (pa_cons (pv 3) (pa_cons (pv 4) (pa_cons (pv 5) pa_nil)))))) (pss_cons (ps_expr (pe_bm PySem.F.plainAttrs_list PySem.F.slot_list_append PySem.F.type_list_append mt_append (pv 2) (pa_cons (pe_callB call_len_seq (by rfl) C.t.len_ (by decide +kernel) (pa_cons (pv 6) pa_nil)) pa_nil))) (pss_one (ps_expr (pe_bm PySem.F.plainAttrs_list PySem.F.slot_list_extend PySem.F.type_list_extend mt_extend (pv 2) (pa_cons (pv 6) pa_nil))))))) (pss_one (ps_ret (pv 2)))))), ?_⟩
  obtain ⟨a, its, rfl, ha, hok, h40, hlen, tb, q⟩ := h
  walk_at "rx"
  intro sa dx hsa hdx ne
  refine ⟨sa, dx, rfl, upd_same, fun l hl => ⟨rfl, ?_⟩⟩
  have nls : l ≠ sa := fun z => by
    rw [z, upd_same] at hl
    cases hl
  rw [upd_swap (p := l) (q := sa) nls, upd_upd]
  have u1 := Up.new (o := .own sa) tb hdx
  have hl1 : upd H dx (.own sa) l = none := by
    rw [upd_ne nls] at hl
    exact hl
  have u2 := u1.new2 (o := .lst []) hl1
  have hsa2 : upd (upd H dx (.own sa)) l (.lst []) sa = none := by
    rw [upd_ne nls.symm, upd_ne ne.symm]
    exact hsa
  have u3 := u2.new2 (o := .ins Cs dx [("stars", .ref l)]) hsa2
  have es : upd (upd (upd H dx (.own sa)) l (.lst [])) sa (.ins Cs dx [("stars", .ref l)]) sa = some (.ins Cs dx [("stars", .ref l)]) := upd_same
  have el : upd (upd (upd H dx (.own sa)) l (.lst [])) sa (.ins Cs dx [("stars", .ref l)]) l = some (.lst []) := by
    rw [upd_ne nls, upd_same]
  generalize upd (upd (upd H dx (.own sa)) l (.lst [])) sa (.ins Cs dx [("stars", .ref l)]) = H1 at u3 es el ⊢
  walk_at "rx"
  refine ⟨by show 0 ≤ sizeLine; decide, fun D hD => ?_⟩
  have u4 := u3.new2 (o := .lst []) hD
  have k4 := Up.new (o := .lst []) u3.2 hD
  have lD : l ≠ D := ne_of_none el hD
  have ses : SesAt (fun x => x ≠ D) Ct Cs (upd H1 D (.lst [])) sa [] := ⟨dx, l, [], k4.ins es, k4.lst el, ⟨rfl, fun i x e => by cases e⟩, Nat.zero_le _, lD⟩
  have eD : upd H1 D (.lst []) D = some (.lst []) := upd_same
  generalize upd H1 D (.lst []) = H2 at u4 ses eD ⊢
  walk_at "rx"
  refine rd_for ?_
  walk_at "rx"
  refine ⟨a, its, rfl, u4.seq ha, hok, h40, u4.2, fun H3 p ps u5 np hp PX => ?_⟩
  have pD : p ≠ D := np.ne eD
  have PX := PX.imp (Y := fun x => x ≠ D) fun x h => h.ne eD
  walk_at "rx"
  refine ⟨⟨refs ps, SqL.of hp⟩, for_list (xs := refs ps) (fun i σ H' => ∃ (ss : List Dz01.Star) (out : List Int) (v3 v4 v5 v6 : Option V), σ = [some (.ref a), some (.ref sa), some (.ref D), v3, v4, v5, v6] ∧ H' p = some (.lst (refs ps)) ∧ PartsX (fun x => x ≠ D) H' ps its ∧ SesAt (fun x => x ≠ D) Ct Cs H' sa ss ∧ H' D = some (.lst (vi out)) ∧ Tabs Ts H' ∧ out ++ run ss (its.drop i) = run [] its)
    ⟨[], [], none, none, none, none, rfl, hp, PX, ses.up u5, u5.lst eD, u5.2, rfl⟩ ?_ ?_ ?_⟩
  · rintro i σ H' hi ⟨ss, out, v3, v4, v5, v6, rfl, hp', _⟩
    exact SqL.of hp'
  · rintro i y σ H' hy ⟨ss, out, v3, v4, v5, v6, rfl, hp', PX', ses', hD', tb', er⟩
    have hi : i < its.length := by
      have := get_lt hy
      rw [refs_len, PX'.1] at this
      exact this
    have hx : its[i]? = some its[i] := List.getElem?_eq_getElem hi
    have ed : its.drop i = its[i] :: its.drop (i + 1) := List.drop_eq_getElem_cons hi
    generalize its[i] = x at hx ed
    rw [ed] at er
    obtain ⟨sh, r6⟩ := hok x (List.mem_of_getElem? hx)
    obtain ⟨b, n, rw, hb, eb, en, erw, nn, nrw⟩ := PX'.2 i x hx
    rw [refs_get hb] at hy
    cases hy
    refine rd_unp3 (SqT.of eb) ?_
    walk_at "rx"
    refine ⟨fun x => x ≠ D, sa, n, rw, x.op, x.a, x.r, x.c, ss, rfl, sh, r6, en, erw, ses', fun na h => h.ne hD', tb', fun H4 pr kp s4 npr hpr => ?_⟩
    have prD : pr ≠ D := npr.ne hD'
    have hD4 := kp.1 _ _ hD'
    have el2 : (run [] its).length = out.length + 1 + (outL (Dz01.spec ss x.c).2).length + (run (Dz01.spec ss x.c).1 (its.drop (i + 1))).length := by
      rw [← er, List.length_append]
      show out.length + (((outL (Dz01.spec ss x.c).2).length : Int) :: outL (Dz01.spec ss x.c).2 ++ run (Dz01.spec ss x.c).1 (its.drop (i + 1))).length = _
      rw [List.length_append, List.length_cons]
      omega
    walk_at "rx"
    refine ⟨.inl ⟨rfl, _, SqL.of hD4⟩, ?_⟩
    walk_at "rx"
    refine ⟨pr, _, rfl, .inl (SqL.of hpr), ?_⟩
    rw [vi_len]
    walk_at "rx"
    refine ⟨D, vi out, _, rfl, rfl, hD4, Nat.lt_of_le_of_lt (by rw [vi_len]; show out.length ≤ 10000000; omega) (show 10000000 < sizeLine by decide), ?_⟩
    have P5 := (PX'.up kp).put (o := .lst (vi out ++ [.int ((outL (Dz01.spec ss x.c).2).length : Nat)])) hD4 fun x h => h
    have s5 := s4.put (o := .lst (vi out ++ [.int ((outL (Dz01.spec ss x.c).2).length : Nat)])) hD4 fun x h => h
    have t5 : Tabs Ts (upd H4 D (.lst (vi out ++ [.int ((outL (Dz01.spec ss x.c).2).length : Nat)]))) := (Up.mut (H := fun _ => none) ⟨fun b o e => (by cases e), kp.2.2⟩ (fun o e => by cases e) hD4).2
    have p5 : upd H4 D (.lst (vi out ++ [.int ((outL (Dz01.spec ss x.c).2).length : Nat)])) p = some (.lst (refs ps)) := by
      rw [upd_ne pD]
      exact kp.1 _ _ hp'
    have pr5 : upd H4 D (.lst (vi out ++ [.int ((outL (Dz01.spec ss x.c).2).length : Nat)])) pr = some (.lst (vi (outL (Dz01.spec ss x.c).2))) := by
      rw [upd_ne prD]
      exact hpr
    have eD5 : upd H4 D (.lst (vi out ++ [.int ((outL (Dz01.spec ss x.c).2).length : Nat)])) D = some (.lst (vi out ++ [.int ((outL (Dz01.spec ss x.c).2).length : Nat)])) := upd_same
    generalize upd H4 D (.lst (vi out ++ [.int ((outL (Dz01.spec ss x.c).2).length : Nat)])) = H5 at *
    walk_at "rx"
    refine ⟨.inl ⟨rfl, _, SqL.of eD5⟩, ?_⟩
    walk_at "rx"
    refine ⟨D, pr, _, _, rfl, rfl, eD5, pr5, ?_, ?_⟩
    · rw [List.length_append, vi_len, vi_len]
      exact Nat.le_trans (show out.length + 1 + (outL (Dz01.spec ss x.c).2).length ≤ 10000000 by omega) (by decide)
    · refine ⟨(Dz01.spec ss x.c).1, out ++ (((outL (Dz01.spec ss x.c).2).length : Int) :: outL (Dz01.spec ss x.c).2), _, _, _, _, rfl, by rw [upd_ne pD]; exact p5, P5.put eD5 fun x h => h, s5.put eD5 fun x h => h, ?_, (Up.mut (H := fun _ => none) ⟨fun b o e => (by cases e), t5⟩ (fun o e => by cases e) eD5).2, ?_⟩
      · rw [upd_same, vi_app]
        show some (HO.lst (vi out ++ [V.int ((outL (Dz01.spec ss x.c).2).length : Int)] ++ vi (outL (Dz01.spec ss x.c).2))) = some (HO.lst (vi out ++ (V.int ((outL (Dz01.spec ss x.c).2).length : Int) :: vi (outL (Dz01.spec ss x.c).2))))
        rw [List.append_assoc]
        rfl
      · rw [← er, List.append_assoc]
        rfl
  · rintro σ H' ⟨ss, out, v3, v4, v5, v6, rfl, hp', PX', ses', hD', tb', er⟩
    rw [refs_len, PX.1, List.drop_length] at er
    have er : out ++ [] = run [] its := er
    rw [List.append_nil] at er
    rw [er] at hD'
    walk_at "rx"
    exact q H' D hD'
end
section
variable {P : Program} {w : World} {K : PySem.W.Frag} {mg : Str → Option Value} {base : Heap} {Ts : List (Addr × Str)} {Ct Cs : Addr}
/-! ### the end: what the top has written -/
section
variable {h : Heap} {x : Str} {st : Stmt} {f C : Addr} {oc kV doc pm cdv ct : Value} {od an : Option Addr} {osl : Array (Option Value)}
theorem int_mk {n : Int} {t : Tok} (X : K.In h) (G : h.Ns mainGlobals mg) (a : PySem.W.nsIn K mainGlobals x = some (some (.int n t))) : ∃ t, mg x = some (.int n t) := ⟨t, PySem.W.mg_of X G a⟩
theorem str_mk {n : Str} {t : Tok} (X : K.In h) (G : h.Ns mainGlobals mg) (a : PySem.W.nsIn K mainGlobals x = some (some (.str n t))) : ∃ t, mg x = some (.str n t) := ⟨t, PySem.W.mg_of X G a⟩
theorem tup_mk {a : Addr} {its : Array Value} {n : Nat} {xs : List V} (X : K.In h) (G : h.Ns mainGlobals mg) (e : PySem.W.nsIn K mainGlobals x = some (some (.ref a))) (l : K.lookup a = some ⟨.type "tuple", od, .seq its n, osl⟩) (hs : its.size ≤ sizeLine) (v : Vals xs its.toList) : ∃ a, mg x = some (.ref a) ∧ KTup K a xs := ⟨a, PySem.W.mg_of X G e, _, its, n, l, rfl, rfl, hs, v⟩
theorem defAt_mk (X : K.In h) (G : h.Ns mainGlobals mg) (a : PySem.W.nsIn K mainGlobals x = some (some (.ref f))) (l : K.lookup f = some ⟨oc, od, .func (PySem.W.fnOf x x (defArgs st) (defBody st) (defScope st) .none kV doc pm an cdv ct), osl⟩) (c : PySem.W.codeIn K cdv x = true) (k : PySem.W.keepIn K (.ref f) = true) : DefAt K mg x st := ⟨f, _, PySem.W.mg_of X G a, fun_mk l c k⟩
/-- a def that makes a lambda, but its table -/
def LamPre (K : PySem.W.Frag) (mg : Str → Option Value) (x : Str) (st : Stmt) (c : Addr) : Prop := ∃ (f : Addr) (oc : Value) (od : Option Addr) (kV doc pm : Value) (an : Option Addr) (ct : Value) (osl : Array (Option Value)), mg x = some (.ref f) ∧
    K.lookup f = some ⟨oc, od, .func (PySem.W.fnOf x x (defArgs st) (defBody st) (defScope st) .none kV doc pm an (.ref c) ct), osl⟩ ∧ PySem.W.codeIn K (.ref c) x = true ∧ PySem.W.keepIn K (.ref f) = true
theorem lamPre_mk {c : Addr} (X : K.In h) (G : h.Ns mainGlobals mg) (a : PySem.W.nsIn K mainGlobals x = some (some (.ref f))) (l : K.lookup f = some ⟨oc, od, .func (PySem.W.fnOf x x (defArgs st) (defBody st) (defScope st) .none kV doc pm an (.ref c) ct), osl⟩) (cd : PySem.W.codeIn K (.ref c) x = true) (k : PySem.W.keepIn K (.ref f) = true) : LamPre K mg x st c := ⟨f, _, _, _, _, _, _, _, _, PySem.W.mg_of X G a, l, cd, k⟩
theorem lamAt_of {c Pt : Addr} (h : LamPre K mg x st c) (t : TabB base mg c Pt) (m : (Pt, (x ++ ".<locals>.") ++ "<lambda>") ∈ Ts) (u : ∀ p ∈ Ts, p.1 = Pt → p.2 = (x ++ ".<locals>.") ++ "<lambda>") : LamAt K mg base Ts x st := by
  obtain ⟨f, oc, od, kV, doc, pm, an, ct, osl, h1, h2, h3, h4⟩ := h
  exact ⟨f, c, Pt, oc, od, kV, doc, pm, an, ct, osl, h1, h2, h3, h4, t, m, u⟩
theorem cls_mk (pg : PySem.W.plainGet K C Str.empty = true) (hd : PySem.W.hasDictIn K C = true) (po : PySem.W.plainOver K C = true) (sa : PySem.W.findIn K (.ref C) "__setattr__" = some (some (.builtin "object.__setattr__"))) : Cls K C := ⟨pg, hd, po, sa⟩
theorem glb_mk (X : K.In h) (G : h.Ns mainGlobals mg) (a : PySem.W.nsIn K mainGlobals x = some (some (.ref C))) : mg x = some (.ref C) := PySem.W.mg_of X G a
theorem initAt_mk {qual : Str} (mk : PySem.W.makesIn K C = true) (a : PySem.W.findIn K (.ref C) "__init__" = some (some (.ref f))) (i : PySem.W.isFn K (.ref f) = true) (kc : PySem.W.keepIn K (.ref C) = true) (l : K.lookup f = some ⟨oc, od, .func (PySem.W.fnOf "__init__" qual (defArgs st) (defBody st) (defScope st) .none kV doc pm an cdv ct), osl⟩) (c : PySem.W.codeIn K cdv qual = true) (k : PySem.W.keepIn K (.ref f) = true) : InitAt K C qual st := ⟨f, _, ⟨mk, a, i, kc⟩, fun_mk l c k⟩
theorem methAt_mk {m qual : Str} (a : PySem.W.findIn K (.ref C) m = some (some (.ref f))) (i : PySem.W.isFn K (.ref f) = true) (l : K.lookup f = some ⟨oc, od, .func (PySem.W.fnOf m qual (defArgs st) (defBody st) (defScope st) .none kV doc pm an cdv ct), osl⟩) (c : PySem.W.codeIn K cdv qual = true) (k : PySem.W.keepIn K (.ref f) = true) : MethAt K C m qual st := ⟨f, _, ⟨a, i, k⟩, fun_mk l c k⟩
theorem na_star (h1 : NoAttr K C "name") (h2 : NoAttr K C "right_ascension") (h3 : NoAttr K C "declination") (h4 : NoAttr K C "magnitude") (h5 : NoAttr K C "right_ascension_motion") (h6 : NoAttr K C "declination_motion") : ∀ a ∈ (["name", "right_ascension", "declination", "magnitude", "right_ascension_motion", "declination_motion"] : List Str), NoAttr K C a := fun a ha => by
  simp only [List.mem_cons, List.not_mem_nil, or_false] at ha
  rcases ha with e | e | e | e | e | e <;> (rw [e]; assumption)
theorem na_ses (h1 : NoAttr K C "stars") : ∀ a ∈ (["stars"] : List Str), NoAttr K C a := fun a ha => by
  rw [List.mem_singleton.mp ha]
  exact h1
end
/-- the names of the lambdas, with their tables -/
def tsOf : List (Addr × Addr) → List (Addr × Str)
  | [(_, p1), (_, p2), (_, p3)] => [(p1, (("arcsin" : Str) ++ ".<locals>.") ++ "<lambda>"), (p2, (("quarter_direction" : Str) ++ ".<locals>.") ++ "<lambda>"), (p3, (("square_root" : Str) ++ ".<locals>.") ++ "<lambda>")]
  | _ => []
/-- all but the tables -/
structure Pre0 (K : PySem.W.Frag) (mg : Str → Option Value) (c1 c2 c3 Ct Cs : Addr) : Prop where
  t : Txt K mg
  l1 : LamPre K mg "arcsin" (top 15) c1
  l2 : LamPre K mg "quarter_direction" (top 16) c2
  l3 : LamPre K mg "square_root" (top 59) c3
  star : ClsAt K mg Ct "Star" ["name", "right_ascension", "declination", "magnitude", "right_ascension_motion", "declination_motion"]
  star_init : InitAt K Ct "Star.__init__" (inClass (top 69) 0)
  ses : ClsAt K mg Cs "Session" ["stars"]
  ses_init : InitAt K Cs "Session.__init__" (inClass (top 134) 0)
  m_load : MethAt K Cs "load" "Session.load" (inClass (top 134) 1)
  m_describe : MethAt K Cs "describe" "Session.describe" (inClass (top 134) 2)
  m_search_name : MethAt K Cs "search_name" "Session.search_name" (inClass (top 134) 3)
  m_export : MethAt K Cs "export" "Session.export" (inClass (top 134) 4)
  m_place : MethAt K Cs "place" "Session.place" (inClass (top 134) 5)
  m_horizon : MethAt K Cs "horizon" "Session.horizon" (inClass (top 134) 6)
  m_ecliptic : MethAt K Cs "ecliptic" "Session.ecliptic" (inClass (top 134) 7)
  m_separation : MethAt K Cs "separation" "Session.separation" (inClass (top 134) 8)
  m_cone : MethAt K Cs "cone" "Session.cone" (inClass (top 134) 9)
  m_match_with : MethAt K Cs "match_with" "Session.match_with" (inClass (top 134) 10)
theorem ctx_of {c1 c2 c3 p1 p2 p3 : Addr} (A : Pre0 K mg c1 c2 c3 Ct Cs) (t1 : TabB base mg c1 p1) (t2 : TabB base mg c2 p2) (t3 : TabB base mg c3 p3) (n12 : p1 ≠ p2) (n13 : p1 ≠ p3) (n23 : p2 ≠ p3) : Ctx P w K mg base (tsOf [(c1, p1), (c2, p2), (c3, p3)]) Ct Cs := by
  have u : ∀ p ∈ tsOf [(c1, p1), (c2, p2), (c3, p3)], p = (p1, (("arcsin" : Str) ++ ".<locals>.") ++ "<lambda>") ∨ p = (p2, (("quarter_direction" : Str) ++ ".<locals>.") ++ "<lambda>") ∨ p = (p3, (("square_root" : Str) ++ ".<locals>.") ++ "<lambda>") := fun p hp => by
    rcases List.mem_cons.mp hp with e | e
    · exact .inl e
    · rcases List.mem_cons.mp e with e | e
      · exact .inr (.inl e)
      · exact .inr (.inr (List.mem_singleton.mp e))
  refine ⟨A.t, lamAt_of A.l1 t1 (List.mem_cons_self ..) fun p hp e => ?_, lamAt_of A.l2 t2 (List.mem_cons_of_mem _ (List.mem_cons_self ..)) fun p hp e => ?_, lamAt_of A.l3 t3 (List.mem_cons_of_mem _ (List.mem_cons_of_mem _ (List.mem_cons_self ..))) fun p hp e => ?_,
    A.star, A.star_init, A.ses, A.ses_init, A.m_load, A.m_describe, A.m_search_name, A.m_export, A.m_place, A.m_horizon, A.m_ecliptic, A.m_separation, A.m_cone, A.m_match_with⟩
  · rcases u p hp with z | z | z
    · rw [z]
    · rw [z] at e
      exact absurd e.symm n12
    · rw [z] at e
      exact absurd e.symm n13
  · rcases u p hp with z | z | z
    · rw [z] at e
      exact absurd e n12
    · rw [z]
    · rw [z] at e
      exact absurd e.symm n23
  · rcases u p hp with z | z | z
    · rw [z] at e
      exact absurd e n13
    · rw [z] at e
      exact absurd e n23
    · rw [z]
theorem fin_F {h : Heap} {fa c1 c2 c3 p1 p2 p3 : Addr} (D : DefAt K mg "answers" (top 155)) (hmg : mg "answers" = some (.ref fa)) (t1 : PySem.W.CodeHd h c1 p1 ∧ h.get? p1 = some (PySem.W.tabObj #[])) (t2 : PySem.W.CodeHd h c2 p2 ∧ h.get? p2 = some (PySem.W.tabObj #[])) (t3 : PySem.W.CodeHd h c3 p3 ∧ h.get? p3 = some (PySem.W.tabObj #[]))
    (k1 : K.lookup p1 = none) (k2 : K.lookup p2 = none) (k3 : K.lookup p3 = none) (A : Pre0 K mg c1 c2 c3 Ct Cs) (n12 : p1 ≠ p2) (n13 : p1 ≠ p3) (n23 : p2 ≠ p3) :
    ∃ (fd : FuncData) (cs : List (Addr × Addr)), (∀ p ∈ cs, h.get? p.2 = some { cls := .none, data := .fields #[] }) ∧ (∀ p ∈ cs, K.lookup p.2 = none) ∧ (∀ p ∈ cs, PySem.W.CodeHd h p.1 p.2) ∧
        (∀ (s : Shared) (us : List Value), us.length = 1 → BindsTo s fd ⟨us, []⟩ ([("calls" : Str)].zip us)) ∧
        ∀ base : Heap, K.In base → base.Ns mainGlobals mg → (∀ p ∈ cs, TabB base mg p.1 p.2) → FnOk P w K mg base CX0 14 fa fd [("calls" : Str)] (spAnswers (tsOf cs) K) := by
  obtain ⟨f, fd, hm, F⟩ := D
  have e := hmg.symm.trans hm
  cases e
  have all : ∀ {q : Addr × Addr → Prop}, q (c1, p1) → q (c2, p2) → q (c3, p3) → ∀ p ∈ [(c1, p1), (c2, p2), (c3, p3)], q p := fun h1 h2 h3 p hp => by
    rcases List.mem_cons.mp hp with e | e
    · rw [e]
      exact h1
    · rcases List.mem_cons.mp e with e | e
      · rw [e]
        exact h2
      · rw [List.mem_singleton.mp e]
        exact h3
  refine ⟨fd, [(c1, p1), (c2, p2), (c3, p3)], all t1.2 t2.2 t3.2, all k1 k2 k3, all t1.1 t2.1 t3.1, ?_, fun base _ _ T => ?_⟩
  · obtain ⟨_, _, _, _, _, _, _, _, _, rfl, _, _⟩ := F.ex
    exact fun s us hu => match us, hu with | [_], _ => .of_eq rfl
  · have T1 := T (c1, p1) (List.mem_cons_self ..)
    have T2 := T (c2, p2) (List.mem_cons_of_mem _ (List.mem_cons_self ..))
    have T3 := T (c3, p3) (List.mem_cons_of_mem _ (List.mem_cons_of_mem _ (List.mem_cons_self ..)))
    exact fn_answers (ctx_of A T1 T2 T3 n12 n13 n23) F
/-! ### what is asked -/
theorem trip0 : TriplesOk (#[] : Array Value).toList := by
  first | trivial | constructor | rfl | decide
def PreA (ns : List Int) : Prop := ∃ its : List Itm, ns = its.flatMap flat ∧ (∀ x ∈ its, x.Ok) ∧ its.length ≤ 40 ∧ (run [] its).length ≤ 10000000 ∧ PyDz01.answers ns = run [] its
theorem map_whole (cs : List (List (List Int))) : cs.map PyDz01.whole = cs := by
  induction cs with
  | nil => rfl
  | cons c cs ih => rw [List.map_cons, ih, whole_eq]
theorem pre_of {ns : List Int} (h : PyDz01.answers_asked ns = true) : PreA ns := by
  unfold PyDz01.answers_asked at h
  cases e : PyFlat.calls PyDz01.shape ns.length ns with
  | none =>
    rw [e] at h
    cases h
  | some cs =>
    rw [e] at h
    dsimp only at h
    rw [Bool.and_eq_true, Bool.and_eq_true, Bool.and_eq_true, Bool.and_eq_true] at h
    obtain ⟨⟨⟨⟨_, h40⟩, hb⟩, _⟩, hs⟩ := h
    obtain ⟨e1, e2⟩ := PyFlat.put_calls _ _ _ e
    obtain ⟨its, k1, k2, k3, k4⟩ := calls_are cs e2 hb
    have ea : PyDz01.answers ns = run [] its := by
      have ec : PyDz01.calls ns = some cs := by
        unfold PyDz01.calls
        rw [e]
        show some (cs.map PyDz01.whole) = some cs
        rw [map_whole]
      unfold PyDz01.answers
      rw [ec]
      exact k4 []
    rw [ea] at hs
    exact ⟨its, e1.trans k3, k1, by rw [k2]; exact of_decide_eq_true h40, of_decide_eq_true hs, ea⟩
theorem fin_S {K : PySem.W.Frag} {cs : List (Addr × Addr)} {H : Hp} {a : Addr} {ns : List Int} (h : PreA ns) (t : ∀ p ∈ cs, H p.2 = some (.tbl #[])) (s : SqL K H a (ns.map V.int)) :
    spAnswers (tsOf cs) K [.ref a] H (fun v H' => Dw K H' v (.list ((PyDz01.answers ns).map .int))) fun _ _ _ => False := by
  obtain ⟨its, rfl, h1, h2, h3, h4⟩ := h
  refine ⟨a, its, rfl, s, h1, h2, h3, fun p hp => ?_, fun H' p hp => ?_⟩
  · have hx : ∃ q ∈ cs, q.2 = p.1 := by
      match cs, hp with
      | [(c1, p1), (c2, p2), (c3, p3)], hp =>
        rcases List.mem_cons.mp hp with e | e
        · rw [e]
          exact ⟨(c1, p1), List.mem_cons_self .., rfl⟩
        · rcases List.mem_cons.mp e with e | e
          · rw [e]
            exact ⟨(c2, p2), List.mem_cons_of_mem _ (List.mem_cons_self ..), rfl⟩
          · rw [List.mem_singleton.mp e]
            exact ⟨(c3, p3), List.mem_cons_of_mem _ (List.mem_cons_of_mem _ (List.mem_cons_self ..)), rfl⟩
      | [], hp => cases hp
      | [_], hp => cases hp
      | [_, _], hp => cases hp
      | _ :: _ :: _ :: _ :: _, hp => cases hp
    obtain ⟨q, hq, e⟩ := hx
    have k := t q hq
    rw [e] at k
    exact ⟨#[], k, trip0, fun pos cv z => by cases z⟩
  · rw [h4]
    exact .lst (SqL.of hp) (dw_ints _)
theorem fin_D (a : PySem.W.Codec.denoteAll PySem.Challenge.rw_starplaces_s01_answers.args) (hw : PySem.W.Codec.withinAll PySem.Challenge.rw_starplaces_s01_answers.args a = true) (ha : PySem.W.Codec.app PySem.Challenge.rw_starplaces_s01_answers.args PySem.Challenge.rw_starplaces_s01_answers.asked a = true) :
    ∃ ns : List Int, PySem.W.Codec.encAll PySem.Challenge.rw_starplaces_s01_answers.args a = [.list (ns.map .int)] ∧ ns.length ≤ sizeLine ∧ PreA ns ∧ PySem.Challenge.rw_starplaces_s01_answers.ret.enc (PySem.W.Codec.app PySem.Challenge.rw_starplaces_s01_answers.args PySem.Challenge.rw_starplaces_s01_answers.f a) = .list ((PyDz01.answers ns).map .int) := by
  have q : ((PySem.W.Codec.inLen 0 17000 a.1 && a.1.all (PySem.W.Codec.inInt (-1000000000000000000) 1000000000000000000)) && true) = true := hw
  rw [Bool.and_eq_true, Bool.and_eq_true] at q
  refine ⟨a.1, rfl, Nat.le_trans (PySem.W.Codec.inNat_iff.mp q.1.1).2 (by decide), pre_of ha, rfl⟩
end
end SP
section
open PySem PySem.W PyProof.Rows
local macro_rules | `(tactic| walk_at "kd") => `(tactic| ((with_reducible refine' SP.defAt_mk (by assumption) (by assumption) ?ka ?kl ?kc ?kk); (case ka => k_is); (case kl => k_is); (case kc => k_is); (case kk => k_is)))
local macro_rules | `(tactic| walk_at "ki") => `(tactic| ((with_reducible refine' SP.int_mk (by assumption) (by assumption) ?ka); (case ka => k_is)))
local macro_rules | `(tactic| walk_at "ks") => `(tactic| ((with_reducible refine' SP.str_mk (by assumption) (by assumption) ?ka); (case ka => k_is)))
local macro_rules | `(tactic| walk_at "kn") => `(tactic| ((with_reducible refine' PySem.W.mg_none_of (by assumption) (by assumption) ?ka); (case ka => k_is)))
local macro_rules | `(tactic| walk_at "kt") => `(tactic| ((with_reducible refine' SP.tup_mk (by assumption) (by assumption) ?ka ?kl ?kh ?kv); (case ka => k_is); (case kl => k_is); (case kh => decide); (case kv => (repeat (first | exact .nil | refine .cons ⟨_, rfl⟩ ?_)))))
local macro_rules | `(tactic| walk_at "kl") => `(tactic| ((with_reducible refine' SP.lamPre_mk (by assumption) (by assumption) ?ka ?kl ?kc ?kk); (case ka => k_is); (case kl => k_is); (case kc => k_is); (case kk => k_is)))
local macro_rules | `(tactic| walk_at "kg") => `(tactic| ((with_reducible refine' SP.glb_mk (by assumption) (by assumption) ?ka); (case ka => k_is)))
local macro_rules | `(tactic| walk_at "kc") => `(tactic| ((with_reducible refine' SP.cls_mk ?k1 ?k2 ?k3 ?k4); (case k1 => k_is); (case k2 => k_is); (case k3 => k_is); (case k4 => k_is)))
local macro_rules | `(tactic| walk_at "kj") => `(tactic| ((with_reducible refine' SP.initAt_mk ?k1 ?k2 ?k3 ?k4 ?k5 ?k6 ?k7); (case k1 => k_is); (case k2 => k_is); (case k3 => k_is); (case k4 => k_is); (case k5 => k_is); (case k6 => k_is); (case k7 => k_is)))
local macro_rules | `(tactic| walk_at "km") => `(tactic| ((with_reducible refine' SP.methAt_mk ?k2 ?k3 ?k5 ?k6 ?k7); (case k2 => k_is); (case k3 => k_is); (case k5 => k_is); (case k6 => k_is); (case k7 => k_is)))
theorem PySem.Challenge.cw_starplaces_s01_answers_holds : PySem.Challenge.rw_starplaces_s01_answers.Holds := by
  w_on
  refine PySem.W.holds_os (r := PySem.Challenge.rw_starplaces_s01_answers) (q := SP.qv) (loose := SP.nms) (XP := PySem.W.XL SP.qv []) (YP := PySem.W.Hook.says (PySem.W.kHook SP.KF SP.asK SP.asK_eq)) (kwd := []) SP.left0 (PySem.W.Hook.of (PySem.W.kHook SP.KF SP.asK SP.asK_eq)) (PySem.W.Hook.keeps (PySem.W.kHook SP.KF SP.asK SP.asK_eq))
    (fun s z => PySem.W.xl_of s (Bool.and_eq_true_iff.mp z).1) PySem.W.XL.keeps (by rfl) (by rfl) (by rfl) (fun s z => PySem.W.recFacts_of (Bool.and_eq_true_iff.mp z).2) PySem.W.os_shapes SP.said0 SP.okay0 SP.bare0 ?hw ?hc
  case hw => exact ⟨[.list [.int 3]], by decide +kernel, by decide +kernel⟩
  k_fillS
  refine SP.walk_specT (r := PySem.Challenge.rw_starplaces_s01_answers) (k := 14) (x := "calls") (sp := fun K cs => SP.spAnswers (SP.tsOf cs) K) (Pre := SP.PreA) (fn := PyDz01.answers) SP.said0 rfl ⟨rfl, by decide, by decide⟩ (fun w h Y => PySem.W.kIn_of Y) SP.fin_D ?F (fun K cs H a ns hp t s => SP.fin_S hp t s)
  case F =>
    intro w s₀ mg mb fa h G Y KX hmg
    have N := G.T.g
    refine' SP.fin_F (h := h) (c1 := 76) (p1 := 72) (c2 := 83) (p2 := 79) (c3 := 236) (p3 := 232) ?D hmg ?t1 ?t2 ?t3 ?k1 ?k2 ?k3 ?A (by decide) (by decide) (by decide)
    (case D => walk_at "kd")
    (case t1 => (refine' PySem.W.tab_of (x := "arcsin") G.T KX rfl ?ht; (case ht => kernel_rfl)))
    (case t2 => (refine' PySem.W.tab_of (x := "quarter_direction") G.T KX rfl ?ht; (case ht => kernel_rfl)))
    (case t3 => (refine' PySem.W.tab_of (x := "square_root") G.T KX rfl ?ht; (case ht => kernel_rfl)))
    (case k1 => kernel_rfl); (case k2 => kernel_rfl); (case k3 => kernel_rfl)
    (case A =>
      refine' SP.Pre0.mk ?t ?l1 ?l2 ?l3 ⟨?sc, ?sg, ?sn⟩ ?si ⟨?ec, ?eg, ?en⟩ ?ei ?m1 ?m2 ?m3 ?m4 ?m5 ?m6 ?m7 ?m8 ?m9 ?m10
      (case sg => walk_at "kg")
      (case eg => walk_at "kg")
      (case sc => walk_at "kc")
      (case ec => walk_at "kc")
      (case sn => (refine' SP.na_star ?n1 ?n2 ?n3 ?n4 ?n5 ?n6; (case n1 => (unfold L2.NoAttr; k_is)); (case n2 => (unfold L2.NoAttr; k_is)); (case n3 => (unfold L2.NoAttr; k_is)); (case n4 => (unfold L2.NoAttr; k_is)); (case n5 => (unfold L2.NoAttr; k_is)); (case n6 => (unfold L2.NoAttr; k_is))))
      (case en => (refine' SP.na_ses ?n1; (case n1 => (unfold L2.NoAttr; k_is))))
      (case si => walk_at "kj")
      (case ei => walk_at "kj")
      (case m1 => walk_at "km")
      (case m2 => walk_at "km")
      (case m3 => walk_at "km")
      (case m4 => walk_at "km")
      (case m5 => walk_at "km")
      (case m6 => walk_at "km")
      (case m7 => walk_at "km")
      (case m8 => walk_at "km")
      (case m9 => walk_at "km")
      (case m10 => walk_at "km")
      (case l1 => walk_at "kl")
      (case l2 => walk_at "kl")
      (case l3 => walk_at "kl")
      (case t =>
        constructor
        all_goals (first | walk_at "kd" | walk_at "ki" | walk_at "ks" | walk_at "kn" | walk_at "kt")))
end
