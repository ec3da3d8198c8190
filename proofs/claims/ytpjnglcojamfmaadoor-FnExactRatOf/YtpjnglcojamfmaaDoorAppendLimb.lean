import Derived.Test.YtpjnglcojamfmaaDoorM1
import Derived.Maps.AppendAt
namespace Go.Proofs.YtpjnglcojamfmaaDoor
open Go.ChangeShapes Go.WideShapes Go.ChangeAt Go.RowKit
/-- What the table of tens holds. -/
def tens (j : Nat) : Nat := 10 ^ (8 - j)
def LT (w : World) : Prop := ∀ j, j < 9 → w.cell? ⟨3, j, none⟩ = some (.int .u32 (tens j : Nat))
/-- Digit j of a limb, the highest first, as a byte. -/
def dg (x j : Nat) : Nat := 48 + x / tens j % 10
def digK (x k : Nat) : List Nat := (List.range k).map (dg x)
abbrev U8s (l : List Nat) : List Value := l.map (fun x => Value.int .u8 (x : Nat))
theorem U8s_snoc (a : List Nat) (b : Nat) : U8s (a ++ [b]) = U8s a ++ [Value.int .u8 (b : Nat)] := by simp [U8s]
theorem tens_step (k : Nat) (h : k < 9) : 10 ^ (9 - k) = 10 * tens k := by
  unfold tens
  rw [show 9 - k = 8 - k + 1 by omega, Nat.pow_succ, Nat.mul_comm]
theorem tens_pos (k : Nat) : 0 < tens k := Nat.pow_pos (by decide)
theorem tens_le (k : Nat) : tens k ≤ 100000000 := by
  unfold tens
  have : 10 ^ (8 - k) ≤ 10 ^ 8 := Nat.pow_le_pow_right (by decide) (by omega)
  have e : (10 : Nat) ^ 8 = 100000000 := by decide
  omega
theorem digK_succ (x k : Nat) : digK x (k + 1) = digK x k ++ [dg x k] := by simp [digK, List.range_succ]
theorem mod_div (x T : Nat) : x % (10 * T) / T = x / T % 10 := by rw [Nat.mul_comm]; exact Nat.mod_mul_right_div_self x T 10
theorem mod_mod (x T : Nat) : x % (10 * T) % T = x % T := Nat.mod_mod_of_dvd x (Nat.dvd_mul_left T 10)
theorem grownBy_tr {A B C : World} {r : Option Nat} (h1 : A.grownBy B r) (h2 : B.grownBy C r) : A.grownBy C r :=
  ⟨h2.os.trans h1.os, h2.tape.trans h1.tape, h2.output.trans h1.output, Nat.le_trans h1.size h2.size, fun k hk hne => (h2.block k (Nat.lt_of_lt_of_le hk h1.size) hne).trans (h1.block k hk hne)⟩
theorem Tryd.info_u8 : (Tryd.prog.info? 5).map (fun i => (i.zero, i.size, i.bytes)) = some (some (.int .u8 0), 1, 1) := by kernel_rfl
set_option maxRecDepth 100000 in
set_option maxHeartbeats 1000000 in
theorem appendLimb_any (base g n cap x : Nat) (xs : List Value) (w : World) (hown0 : w.ownsRow base 5 1 (.slice (some ⟨g, 0, none⟩) n cap) n xs) (hLT : LT w) (hgb : 3 < base) (hx : x < 1000000000) (hc : n + 9 ≤ cap) :
    Calls Tryd.prog 83 #[.slice (some ⟨g, 0, none⟩) n cap, .int .u32 (x : Nat)] w fun e w' =>
      e = .returned (.slice (some ⟨g, 0, none⟩) (n + 9) cap) ∧ w'.ownsRow base 5 1 (.slice (some ⟨g, 0, none⟩) (n + 9) cap) (n + 9) (xs ++ U8s (digK x 9)) ∧ w.grownBy w' (some g) := by
  have HLT : Hid (LT w) := hLT
  have hgl := (hown0.lt g rfl).1
  have HO : Hid (w.ownsRow base 5 1 (.slice (some ⟨g, 0, none⟩) n cap) n xs) := hown0
  obtain ⟨i0, hinf, hz0, hz1, hz2⟩ := info_parts Tryd.info_u8
  clear hLT hown0
  go_enter Tryd.func83, Tryd.ntmps83
  go_wp2
  go_loopw [0, 1, 6] (fun v l i wr => ∃ k : Nat, k ≤ 9 ∧ i = .int .i64 k ∧ l = .int .u32 (x % 10 ^ (9 - k) : Nat) ∧ v = .slice (some ⟨g, 0, none⟩) (n + k) cap ∧
      wr.ownsRow base 5 1 (.slice (some ⟨g, 0, none⟩) (n + k) cap) (n + k) (xs ++ U8s (digK x k)) ∧ w.grownBy wr (some g)) (fun _ _ i _ => 9 - (intOf i).toNat)
  case atStart =>
    refine ⟨0, Nat.zero_le _, rfl, val_int ?_, rfl, by simpa [digK] using HO.out, World.grownBy.refl _ _⟩
    have e : (10 : Nat) ^ 9 = 1000000000 := by decide
    rw [show 9 - 0 = 9 from rfl, e]
    omega
  case round =>
    obtain ⟨k, hk, rfl, rfl, rfl, hown, hgr⟩ := hrel
    by_cases hlt : k < 9
    · have hcell : wr.cell? ⟨3, k, none⟩ = some (.int .u32 (tens k : Nat)) := hgr.cell (HLT.out k hlt) (by simp; omega)
      have hT := tens_pos k
      have hT2 := tens_le k
      have e1 := tens_step k hlt
      have e2 := mod_div x (tens k)
      have e3 := mod_mod x (tens k)
      have e4 : 10 ^ (9 - (k + 1)) = tens k := by unfold tens; rw [show 9 - (k + 1) = 8 - k by omega]
      have hLb : x % (10 * tens k) < 10 * tens k := Nat.mod_lt _ (by omega)
      have HD : Hid (dg x k = 48 + x / tens k % 10) := rfl
      rw [e1]
      have HE4 : Hid (10 ^ (9 - (k + 1)) = tens k) := e4
      obtain ⟨T, hTT⟩ : ∃ T, tens k = T := ⟨_, rfl⟩
      rw [hTT] at hcell hT hT2 e2 e3 hLb HD HE4 ⊢
      obtain ⟨L, hL⟩ : ∃ L, x % (10 * T) = L := ⟨_, rfl⟩
      rw [hL] at e2 e3 hLb ⊢
      have hq : L / T < 10 := Nat.div_lt_of_lt_mul (by omega)
      have HQ : Hid (dg x k = 48 + L / T) := by rw [e2]; exact HD.out
      have HM : Hid (x % 10 ^ (9 - (k + 1)) = L % T) := by rw [HE4.out]; exact e3.symm
      have hT0 : ((T : Int) == 0) = false := by rw [beq_eq_false_iff_ne]; omega
      have hq' : (L : Int) / (T : Int) < 10 := by
        have : ((L / T : Nat) : Int) < 10 := by omega
        simpa using this
      have hq0 : 0 ≤ (L : Int) / (T : Int) := Int.ediv_nonneg (by omega) (by omega)
      clear e1 e2 e3 e4 hTT hL HD HE4
      go_wp2_with (at_builtin; refine wpList_append_fits _ rfl _ _ 87 rfl base 5 i0 1 Tryd.underlying87 hinf hz1 g (n + k) cap _ rfl (hown.alloc _) ⟨wr.heap.size, 0, none⟩ 1 1 [_] rfl rfl (cell_one_new _ _ _) ?c1 ?c2 ?_)
      case c1 => first | rfl | (intro u hu; simp at hu; subst hu; rfl)
      case c2 => omega
      intro w1 hown' hgr'
      have hgr2 : w.grownBy w1 (some g) := grownBy_tr (grownBy_tr hgr (World.grownBy_alloc wr _ _)) hgr'
      have hcell1 : w1.cell? ⟨3, k, none⟩ = some (.int .u32 (T : Nat)) := hgr'.cell (a := ⟨3, k, none⟩) (by rw [World.cell?_alloc_past _ _ _ (World.block_lt_of_cell? _ _ hcell)]; exact hcell) (by simp; omega)
      have HOW : Hid (w1.ownsRow base 5 1 (.slice (some ⟨g, 0, none⟩) (n + (k + 1)) cap) (n + (k + 1)) (xs ++ U8s (digK x (k + 1)))) := by
        show w1.ownsRow base 5 1 (.slice (some ⟨g, 0, none⟩) (n + (k + 1)) cap) (n + (k + 1)) (xs ++ U8s (digK x (k + 1)))
        rw [digK_succ, U8s_snoc, ← List.append_assoc, HQ.out]
        simpa [← Nat.add_assoc] using hown'
      clear hown' hgr' hown hcell
      go_wp2
      go_roundw
      case rel => exact ⟨k + 1, by omega, by go_num, by rw [HM.out]; exact val_int (by simp), rfl, HOW.out, hgr2⟩
      case measure => simp [intOf]; omega
    · obtain rfl : k = 9 := by omega
      go_wp2
      go_ret
      exact ⟨rfl, hown, hgr⟩
end Go.Proofs.YtpjnglcojamfmaaDoor
