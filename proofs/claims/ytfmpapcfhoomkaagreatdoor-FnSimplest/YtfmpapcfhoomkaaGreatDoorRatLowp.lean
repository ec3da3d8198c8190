import Derived.Test.YtfmpapcfhoomkaaGreatDoorTextBackp
import Derived.Test.YtfmpapcfhoomkaaGreatDoorGcdIp
namespace Go.Proofs.YtfmpapcfhoomkaaGreatDoor
open Go.RowKit
theorem div_exact (x c q r : Int) (_hc : c ≠ 0) (h : IsDiv x c q r) (hd : c ∣ x) : x = q * c := by
 obtain ⟨h1, h2, h3⟩ := h; obtain ⟨k, hk⟩ := hd; have hr : r = c * (k - q) := by rw [Int.mul_sub, ← hk, h1, Int.mul_comm c q]; omega
 have hz : k - q = 0 := by
  apply Classical.byContradiction; intro hne; have h4 : c.natAbs ≤ r.natAbs := by rw [hr, Int.natAbs_mul]; exact Nat.le_mul_of_pos_right _ (by omega)
  omega
 rw [hr, hz, Int.mul_zero] at h1; omega
theorem low_of_div (x y c n r d r' : Int) (hy : y ≠ 0) (hc : c = if y < 0 then -gcdI x y else gcdI x y) (h1 : IsDiv x c n r) (h2 : IsDiv y c d r') : IsLow x y n d := by
 have hg : 0 < Int.gcd x y := Int.gcd_pos_of_ne_zero_right _ hy; have hga : c.natAbs = Int.gcd x y := by rw [hc]; unfold gcdI; split <;> omega
 have c0 : c ≠ 0 := by omega
 have dx : c ∣ x := by rw [← Int.natAbs_dvd, hga]; exact Int.gcd_dvd_left x y
 have dy : c ∣ y := by rw [← Int.natAbs_dvd, hga]; exact Int.gcd_dvd_right x y
 have ex := div_exact x c n r c0 h1 dx; have ey := div_exact y c d r' c0 h2 dy; refine ⟨c, c0, ex, ey, ?_, hga⟩
 by_cases hn : y < 0
 ·have hcn : c < 0 := by rw [hc, if_pos hn]; unfold gcdI; omega
  apply Classical.byContradiction; intro h; have : 0 ≤ d * c := Int.mul_nonneg_of_nonpos_of_nonpos (by omega) (by omega); omega
 have hcn : 0 < c := by rw [hc, if_neg hn]; unfold gcdI; omega
 apply Classical.byContradiction; intro h; have : d * c ≤ 0 := Int.mul_nonpos_of_nonpos_of_nonneg (by omega) (by omega); omega
end Go.Proofs.YtfmpapcfhoomkaaGreatDoor
