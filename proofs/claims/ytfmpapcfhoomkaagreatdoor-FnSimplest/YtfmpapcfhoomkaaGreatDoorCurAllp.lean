import Derived.Test.YtfmpapcfhoomkaaGreatDoorSumTp
import Derived.Test.YtfmpapcfhoomkaaGreatDoorRatABp
import Derived.Deep.QuietTactic
import Derived.BigQuiet
import Derived.Laws.Bits64b
import Derived.Test.YtfmpapcfhoomkaaGreatDoorM8p
import Derived.Test.YtfmpapcfhoomkaaGreatDoorMulBSp
import Derived.Test.YtfmpapcfhoomkaaGreatDoorK1p
import Derived.Test.YtfmpapcfhoomkaaGreatDoorK2p
import Derived.Test.YtfmpapcfhoomkaaGreatDoorQIp
import Derived.Deep.RegionHeld3
import Derived.Test.YtfmpapcfhoomkaaGreatDoorQQp
import Derived.Test.YtfmpapcfhoomkaaGreatDoorGcdIp
import Derived.Test.YtfmpapcfhoomkaaGreatDoorCmpXYp
import Derived.Test.YtfmpapcfhoomkaaGreatDoorCmpImplp
import Derived.Test.YtfmpapcfhoomkaaGreatDoorDivTopp
import Derived.Test.YtfmpapcfhoomkaaGreatDoorDivSpecp
import Derived.Test.YtfmpapcfhoomkaaGreatDoorK3p
import Derived.Deep.DeepCutAuto
namespace Go.Proofs.YtfmpapcfhoomkaaGreatDoor
open Go.ChangeShapes Go.WideShapes Go.ChangeAt Go.RowKit
structure Bar (g : Nat) (w w' : World) : Prop where
 os : w'.os = w.os
 tape : w'.tape = w.tape
 output : w'.output = w.output
 size : w.heap.size ≤ w'.heap.size
 block : ∀ k, k < w.heap.size → k ≠ g → w'.heap[k]? = w.heap[k]?
theorem Bar.refl (g : Nat) (w : World) : Bar g w w := ⟨rfl, rfl, rfl, leR, fun _ _ _ => rfl⟩
theorem Bar.trans {g : Nat} {a b c : World} (h : Bar g a b) (k : Bar g b c) : Bar g a c :=
 ⟨k.os.trans h.os, k.tape.trans h.tape, k.output.trans h.output, Nat.le_trans h.size k.size, fun i hi hg => (k.block i (Nat.lt_of_lt_of_le hi h.size) hg).trans (h.block i hi hg)⟩
theorem Bar.of {g : Nat} {w w' : World} (h : Up w w') : Bar g w w' := ⟨h.os, h.tape, h.output, h.size, fun k hk _ => h.block k hk⟩
theorem Bar.below {g N : Nat} {w w' : World} (h : Bar g w w') (hN : N ≤ g) (hw : N ≤ w.heap.size) : Below N w w' := ⟨h.os, h.tape, h.output, h.size, fun k hk => h.block k (by omega) (by omega)⟩
theorem Bar.setCell (g i : Nat) (w : World) (v : Value) : Bar g w (w.setCell ⟨g, i, none⟩ v) :=
 ⟨rfl, rfl, rfl, by simp [World.setCell], fun k _ hk => Below.heap_setCell _ _ _ _ hk⟩
theorem Bar.drew {g : Nat} {w w' : World} (h : Bar g w w') : Bar g w w'.drew := ⟨h.os, h.tape, h.output, h.size, h.block⟩
theorem Bar.cell {g : Nat} {w w' : World} (h : Bar g w w') {p : Addr} (hp : p.block < w.heap.size) (hg : p.block ≠ g) : w'.cell? p = w.cell? p := by
 unfold World.cell?; rw [h.block p.block hp hg]
def CodeIn (g N : Nat) (w : World) (a : Option Addr) (n cap : Nat) : Prop := n ≤ cap ∧ cap ≤ maxLen ∧ ∀ i, i < n → ∃ b off v : Nat, a = some ⟨b, off, none⟩ ∧ b ≠ g ∧ b < N ∧ v < 256 ∧ w.cell? ⟨b, off + i, none⟩ = some (.int .u8 v)
theorem CodeIn.bar {g N : Nat} {w w' : World} {a : Option Addr} {n cap : Nat} (h : CodeIn g N w a n cap) (hN : N ≤ w.heap.size) (hb : Bar g w w') : CodeIn g N w' a n cap :=
 ⟨h.1, h.2.1, fun i hi => by
  obtain ⟨b, off, v, e, h1, h2, h3, h4⟩ := h.2.2 i hi
  exact ⟨b, off, v, e, h1, h2, h3, (hb.cell (p := ⟨b, off + i, none⟩) (Nat.lt_of_lt_of_le h2 hN) h1).trans h4⟩⟩
def IsCur (g N : Nat) (w : World) (k : Nat) : Prop := g < N ∧ N ≤ w.heap.size ∧ ∃ a n cap sd, Bx w g [.slice a n cap, .int .i64 (k : Nat), .int .u64 (sd : Nat)] ∧ sd < 18446744073709551616 ∧ CodeIn g N w a n cap
theorem IsCur.below {g N k : Nat} {w w' : World} (h : IsCur g N w k) (hb : Below N w w') : IsCur g N w' k := by
 obtain ⟨h1, h2, a, n, cap, sd, hx, hs, hc⟩ := h; refine ⟨h1, Nat.le_trans h2 hb.size, a, n, cap, sd, hx.below h1 hb, hs, hc.1, hc.2.1, fun i hi => ?_⟩; obtain ⟨b, off, v, e, e1, e2, e3, e4⟩ := hc.2.2 i hi; exact ⟨b, off, v, e, e1, e2, e3, (hb.cell (p := ⟨b, off + i, none⟩) e2).trans e4⟩
theorem wrap_u64_ex (x : Int) : ∃ m : Nat, IntKind.u64.wrap x = (m : Int) ∧ m < 18446744073709551616 := by
 refine ⟨(IntKind.u64.wrap x).toNat, ?_, ?_⟩ <;> simp only [IntKind.wrap_u64] <;> omega
theorem shr_and (m : Nat) (hm : m < 18446744073709551616) : ∃ r : Nat, wrap64 (bits BinOp.and IntKind.u64 ((m : Int) / 1099511627776) 255) = (r : Int) ∧ r < 256 := by
 have e1 : ((m : Int) / 1099511627776) = ((m / 1099511627776 : Nat) : Int) := by omega
 have e2 := bits_and_u64_nat (m / 1099511627776) 255 (by omega) (by decide); have h3 : (m / 1099511627776) &&& 255 ≤ 255 := Nat.and_le_right; obtain ⟨x, hx⟩ : ∃ x : Nat, (m / 1099511627776) &&& 255 = x := ⟨_, rfl⟩; rw [hx] at h3 e2; refine ⟨x, ?_, by omega⟩; have e4 : ((255 : Nat) : Int) = 255 := rfl; rw [e4] at e2; rw [e1, e2]; unfold wrap64; omega
theorem cur_step {g N k : Nat} {w : World} {a : Option Addr} {n cap sd : Nat} (hgN : g < N) (hN : N ≤ w.heap.size) (hx : Bx w g [.slice a n cap, .int .i64 (k : Nat), .int .u64 (sd : Nat)]) (hc : CodeIn g N w a n cap) (m1 m2 m : Nat) (hm : m < 18446744073709551616) :
 IsCur g N ((((w.drewN m1).setCell ⟨g, 1, none⟩ (.int .i64 ((k : Int) + 1))).setCell ⟨g, 2, none⟩ (.int .u64 (m : Nat))).drewN m2) (k + 1) ∧ Bar g w ((((w.drewN m1).setCell ⟨g, 1, none⟩ (.int .i64 ((k : Int) + 1))).setCell ⟨g, 2, none⟩ (.int .u64 (m : Nat))).drewN m2) := by
 have hb : Bar g w ((((w.drewN m1).setCell ⟨g, 1, none⟩ (.int .i64 ((k : Int) + 1))).setCell ⟨g, 2, none⟩ (.int .u64 (m : Nat))).drewN m2) := by
  have h0 : Bar g w (w.drewN m1) := ⟨rfl, rfl, rfl, leR, fun _ _ _ => rfl⟩; have h1 := (h0.trans (Bar.setCell g 1 _ (.int .i64 ((k : Int) + 1)))).trans (Bar.setCell g 2 _ (.int .u64 (m : Nat))); exact ⟨h1.os, h1.tape, h1.output, h1.size, h1.block⟩
 refine ⟨⟨hgN, Nat.le_trans hN hb.size, a, n, cap, m, ?_, hm, hc.bar hN hb⟩, hb⟩; have h0 : Bx (w.drewN m1) g [.slice a n cap, .int .i64 (k : Nat), .int .u64 (sd : Nat)] := by obtain ⟨t, h⟩ := hx; exact ⟨t, h⟩
 have h1 := (h0.set 1 (.int .i64 ((k : Int) + 1))).set 2 (.int .u64 (m : Nat)); obtain ⟨t, h⟩ := h1; exact ⟨t, h⟩
set_option maxRecDepth 100000 in
set_option maxHeartbeats 1000000 in
theorem next_any (g N k : Nat) (w : World) (h : IsCur g N w k) (hk : k ≤ 1000000000000) :
 Calls Tryz.prog 116 #[.pointer (some ⟨g, 0, none⟩)] w fun e w' => ∃ r : Nat, e = .returned (.int .i64 (r : Nat)) ∧ r < 256 ∧ IsCur g N w' (k + 1) ∧ Bar g w w' := by
 obtain ⟨hgN, hNw, a, n, cap, sd, hx, hsd, hc⟩ := h; have HGN := Hd (And.intro hgN hNw); clear hgN hNw; have HX := Hd hx; have HC := Hd hc; have hcap := hc.2.1; have hn := hc.1; unfold maxLen at hcap; obtain ⟨k0, k1, k2⟩ := hx.c3; have f1 := hx.frozen 1; have f2 := hx.frozen 2
 by_cases hlt : k < n
 ·obtain ⟨b, off, v, ea, hbg, hbs, hv, hcell⟩ := hc.2.2 k hlt; subst ea; have z : decide ((k : Int) < (n : Int)) = true := by rw [decide_eq_true_iff]; omega
  have z2 : decide ((k : Int) + 1 ≤ (n : Int)) = true := by rw [decide_eq_true_iff]; omega
  clear hx hc
  go_enter Tryz.func116, Tryz.ntmps116
  go_wp2
  go_quiet (fail)
  go_wp2
  go_quiet (fail)
  go_wp2
  go_quiet (fail)
  go_wp2
  obtain ⟨m, hm, hml⟩ := wrap_u64_ex (IntKind.u64.wrap (IntKind.u64.wrap (↑sd * 6364136223846793005) + ↑v) + 1442695040888963407); rw [hm]
  go_ret
  obtain ⟨h1, h2⟩ := cur_step HGN.o.1 HGN.o.2 HX.o HC.o _ _ m hml; exact ⟨v, rfl, hv, h1, h2⟩
 have z : decide ((k : Int) < (n : Int)) = false := by rw [decide_eq_false_iff_not]; omega
 have z2 : decide ((k : Int) + 1 ≤ (n : Int)) = false := by rw [decide_eq_false_iff_not]; omega
 clear hx hc
 go_enter Tryz.func116, Tryz.ntmps116
 go_wp2
 go_quiet (fail)
 go_wp2
 go_quiet (fail)
 go_wp2
 obtain ⟨m, hm, hml⟩ := wrap_u64_ex (IntKind.u64.wrap (IntKind.u64.wrap (↑sd * 6364136223846793005)) + 1442695040888963407); obtain ⟨r, hr, hrl⟩ := shr_and m hml; rw [hm, hr]
 go_ret
 obtain ⟨h1, h2⟩ := cur_step HGN.o.1 HGN.o.2 HX.o HC.o _ _ m hml; exact ⟨r, rfl, hrl, h1, h2⟩
set_option maxRecDepth 100000 in
set_option maxHeartbeats 1000000 in
theorem pick_any (g N k n : Nat) (w : World) (h : IsCur g N w k) (hk : k ≤ 100000000000) (hn : 0 < n) (hn2 : n ≤ 65536) :
 Calls Tryz.prog 64 #[.pointer (some ⟨g, 0, none⟩), .int .i64 (n : Nat)] w fun e w' => ∃ r k' : Nat, e = .returned (.int .i64 (r : Nat)) ∧ r < n ∧ k' ≤ k + 2 ∧ IsCur g N w' k' ∧ Bar g w w' := by
 have HC := Hd h; clear h
 by_cases h1 : n ≤ 1
 ·have z : decide ((n : Int) ≤ 1) = true := by rw [decide_eq_true_iff]; omega
  go_enter Tryz.func64, Tryz.ntmps64
  go_wp2
  go_ret
  exact ⟨0, k, rfl, hn, by omega, HC.o, Bar.refl _ _⟩
 have z : decide ((n : Int) ≤ 1) = false := by rw [decide_eq_false_iff_not]; omega
 by_cases h2 : 200 < n
 ·have z2 : decide (200 < (n : Int)) = true := by rw [decide_eq_true_iff]; omega
  go_enter Tryz.func64, Tryz.ntmps64
  go_wp2_with fail
  refine (next_any g N k _ HC.o (by omega)).mono ?_; rintro e w1 ⟨r1, rfl, hr1, hc1, hb1⟩; have HC1 := Hd hc1; have HB1 := Hd hb1; clear hc1 hb1
  go_wp2_with fail
  refine (next_any g N (k + 1) _ HC1.o (by omega)).mono ?_; rintro e w2 ⟨r2, rfl, hr2, hc2, hb2⟩; have HC2 := Hd hc2; have HB2 := Hd (HB1.o.trans hb2); clear hc2 hb2
  go_wp2
  go_ret
  exact ⟨(r1 * 256 + r2) % n, k + 1 + 1, ret_int (by push_cast; rfl), Nat.mod_lt _ hn, by omega, HC2.o, HB2.o⟩
 have z2 : decide (200 < (n : Int)) = false := by rw [decide_eq_false_iff_not]; omega
 go_enter Tryz.func64, Tryz.ntmps64
 go_wp2_with fail
 refine (next_any g N k _ HC.o (by omega)).mono ?_; rintro e w1 ⟨r1, rfl, hr1, hc1, hb1⟩; have HC1 := Hd hc1; have HB1 := Hd hb1; clear hc1 hb1
 go_wp2
 go_ret
 exact ⟨r1 % n, k + 1, ret_int (by push_cast; rfl), Nat.mod_lt _ hn, by omega, HC1.o, HB1.o⟩
theorem Bar.grownBy {g : Nat} {w w' : World} (h : Bar g w w') : w.grownBy w' (some g) := ⟨h.os, h.tape, h.output, h.size, fun k hk hne => h.block k hk (fun e => hne (by rw [e]))⟩
theorem Bar.then {g : Nat} {w a b : World} (h : Bar g w a) (k : Below w.heap.size a b) : Bar g w b :=
 ⟨k.os.trans h.os, k.tape.trans h.tape, k.output.trans h.output, Nat.le_trans h.size k.size, fun i hi hg => (k.block i hi).trans (h.block i hi hg)⟩
def DigL (ds : List Nat) : Prop := ∀ x ∈ ds, 48 ≤ x ∧ x ≤ 57
theorem DigL.snoc {ds : List Nat} (h : DigL ds) (x : Nat) (h1 : 48 ≤ x) (h2 : x ≤ 57) : DigL (ds ++ [x]) := fun y hy => by
 rcases List.mem_append.1 hy with h3 | h3
 ·exact h y h3
 ·simp at h3; omega
def drawn (s : Bool) (ds : List Nat) : List Nat := (if s then [45] else []) ++ ds
theorem drawn_len (s : Bool) (ds : List Nat) : (drawn s ds).length = (if s then 1 else 0) + ds.length := by
 unfold drawn
 cases s <;> simp
 omega
theorem drawn_snoc (s : Bool) (ds : List Nat) (x : Nat) : drawn s (ds ++ [x]) = drawn s ds ++ [x] := by unfold drawn; rw [List.append_assoc]
theorem headD_snoc (ds : List Nat) (x : Nat) (h : 49 ≤ ds.headD 0) : 49 ≤ (ds ++ [x]).headD 0 := by
 cases ds with
 | nil => simp at h
 | cons a l => simpa using h
theorem drawn_lt {s : Bool} {ds : List Nat} (h : DigL ds) : ∀ x ∈ drawn s ds, x < 256 := fun x hx => by
 unfold drawn at hx
 rcases List.mem_append.1 hx with h1 | h1
 ·cases s <;> simp at h1; omega
 ·have := h x h1; omega
def DigInv (g N k n : Nat) (s : Bool) (w : World) (v i : Value) (W : World) : Prop := ∃ (j k' : Nat) (ds : List Nat), 1 ≤ j ∧ j ≤ n ∧ i = .int .i64 (j : Nat) ∧ ds.length = j ∧ DigL ds ∧ 49 ≤ ds.headD 0 ∧ k' ≤ k + 4 + 2 * (j - 1) ∧
 v = .slice (some ⟨w.heap.size, 0, none⟩) (drawn s ds).length (n + 1) ∧ W.ownsRow w.heap.size 5 1 (.slice (some ⟨w.heap.size, 0, none⟩) (drawn s ds).length (n + 1)) (drawn s ds).length (U8s (drawn s ds)) ∧ IsCur g N W k' ∧ Bar g w W
set_option maxRecDepth 100000 in
set_option maxHeartbeats 4000000 in
theorem digits_any (g N k n : Nat) (w : World) (h : IsCur g N w k) (hk : k ≤ 1000000000) (hn : 1 ≤ n) (hn2 : n ≤ 3000) :
 Calls Tryz.prog 127 #[.pointer (some ⟨g, 0, none⟩), .int .i64 (n : Nat)] w fun e w' => ∃ (s : Bool) (ds : List Nat) (k' : Nat), e = .returned (.string (strB (bytesOf (drawn s ds)))) ∧ ds.length = n ∧ DigL ds ∧ 49 ≤ ds.headD 0 ∧ k' ≤ k + 2 * n + 10 ∧ IsCur g N w' k' ∧ Bar g w w' := by
 obtain ⟨i0, hinf, hz0, hz1, hz2⟩ := info_parts Tryz.info_u8; have HC := Hd h; have hgN := h.1; have hNw := h.2.1; clear h
 go_enter Tryz.func127, Tryz.ntmps127
 go_wp2_with (at_make; refine wpList_make_own _ rfl _ _ 22 rfl w.heap.size 5 i0 (.int .u8 0) 1 Tryz.underlying22 hinf hz0 hz1 .i64 .i64 _ (n + 1) rfl rfl ?m1 ?m2 ?m3 ?m4 ?_)
 case m1 => omega
 case m2 => rw [hz2]; omega
 case m3 => unfold maxLen; omega
 case m4 => exact leR
 intro w2 hown2 hgr2; have hB2 : Up w w2 := (Below.refl _ _).grown hgr2 leR (fun k h => by cases h); have HOWN2 := Hd hown2; have HC2 := Hd (HC.o.below (hB2.mono hNw)); have HB2 : Hid (Bar g w w2) := Bar.of hB2; clear hgr2 hown2 hB2
 go_wp2_with fail
 refine (pick_any g N k 3 _ HC2.o (by omega) (by decide) (by decide)).mono ?_; rintro e w3 ⟨r3, k3, rfl, hr3, hk3, hc3, hb3⟩; have HC3 := Hd hc3; have HB3 := Hd (HB2.o.trans hb3); have HOWN3 := Hd (HOWN2.o.kept hb3.grownBy (.inr (by simp [Value.ownBlock]; omega))); clear hc3 hb3
 by_cases h0 : r3 = 0
 ·have z0 : ((r3 : Int) == 0) = true := by rw [beq_iff_eq]; omega
  have hown3 := HOWN3.o
  go_wp2_with (at_builtin; refine wpList_append_fits _ rfl _ _ 22 rfl w.heap.size 5 i0 1 Tryz.underlying22 hinf hz1 w.heap.size (0) (n + 1) _ rfl (hown3.alloc _) ⟨w3.heap.size, 0, none⟩ 1 1 [_] rfl rfl (cell_one_new _ _ _) ?c1 ?c2 ?_)
  case c1 => first | rfl | (intro u hu; simp at hu; subst hu; rfl)
  case c2 => omega
  intro w4 hown4 hgr4; have hB4 : Below w.heap.size w3 w4 := ((Below.refl _ w3).alloc HB3.o.size _).grown hgr4 (by have := HB3.o.size; simp; omega) (fun k e => by cases e; exact leR); have HOWN4 := Hd hown4; have HC4 := Hd (HC3.o.below (hB4.mono hNw)); have HB4 := Hd (HB3.o.then hB4); clear hown3 hown4 hgr4 hB4
  go_wp2_with fail
  refine (pick_any g N k3 9 _ HC4.o (by omega) (by decide) (by decide)).mono ?_; rintro e w5 ⟨r5, k5, rfl, hr5, hk5, hc5, hb5⟩; have HC5 := Hd hc5; have HB5 := Hd (HB4.o.trans hb5); have HOWN5 := Hd (HOWN4.o.kept hb5.grownBy (.inr (by simp [Value.ownBlock]; omega))); clear hc5 hb5; have hown5 := HOWN5.o
  go_wp2_with (at_builtin; refine wpList_append_fits _ rfl _ _ 22 rfl w.heap.size 5 i0 1 Tryz.underlying22 hinf hz1 w.heap.size (1) (n + 1) _ rfl (hown5.alloc _) ⟨w5.heap.size, 0, none⟩ 1 1 [_] rfl rfl (cell_one_new _ _ _) ?c1 ?c2 ?_)
  case c1 => first | rfl | (intro u hu; simp at hu; subst hu; rfl)
  case c2 => omega
  intro w6 hown6 hgr6; have hB6 : Below w.heap.size w5 w6 := ((Below.refl _ w5).alloc HB5.o.size _).grown hgr6 (by have := HB5.o.size; simp; omega) (fun k e => by cases e; exact leR); have HINV : Hid (DigInv g N k n true w (.slice (some ⟨w.heap.size, 0, none⟩) (1 + 1) (n + 1)) (.int .i64 1) w6) := by
   refine ⟨1, k5, [49 + r5], leR, hn, rfl, rfl, ?_, ?_, by omega, rfl, ?_, HC5.o.below (hB6.mono hNw), HB5.o.then hB6⟩
   ·intro x hx; simp at hx; omega
   ·simp
   simpa [U8s, drawn] using hown6
  clear hown5 hown6 hgr6 hB6
  go_wp2_with fail
  go_loopw [5, 6] (DigInv g N k n true w) (fun _ i _ => n - (intOf i).toNat)
  case atStart => exact HINV.o
  case round =>
   clear HINV; obtain ⟨j, kj, ds, hj1, hj, rfl, hlen, hdl, hhd, hkj, rfl, hown, hcur, hbar⟩ := hrel; obtain ⟨m, hm⟩ := exW ((drawn true ds).length); have HM := Hd hm; have hmj : m = 1 + j := by rw [← hm, drawn_len, hlen]; rfl
   have HMJ := Hd hmj; rw [hm] at hown ⊢; clear hm hmj; have HDL := Hd hdl; have HHD := Hd hhd; have HLEN := Hd hlen; have HBAR := Hd hbar; have HCUR := Hd hcur; have HOWN := Hd hown
   by_cases hlt : j < n
   ·have zj : decide ((j : Int) < (n : Int)) = true := by rw [decide_eq_true_iff]; omega
    have hmn : m + 1 ≤ n + 1 := by have := HMJ.o; omega
    clear hdl hhd hlen hbar hcur hown
    go_wp2_with fail
    refine (pick_any g N kj 14 _ HCUR.o (by omega) (by decide) (by decide)).mono ?_; rintro e w7 ⟨r7, k7, rfl, hr7, hk7, hc7, hb7⟩; have HC7 := Hd hc7; have HB7 := Hd (HBAR.o.trans hb7); have hown7 := HOWN.o.kept hb7.grownBy (.inr (by simp [Value.ownBlock]; omega)); clear hc7 hb7
    by_cases h9 : 9 < r7
    ·have z9 : decide (9 < (r7 : Int)) = true := by rw [decide_eq_true_iff]; omega
     go_wp2_with (at_builtin; refine wpList_append_fits _ rfl _ _ 22 rfl w.heap.size 5 i0 1 Tryz.underlying22 hinf hz1 w.heap.size (m) (n + 1) _ rfl (hown7.alloc _) ⟨w7.heap.size, 0, none⟩ 1 1 [_] rfl rfl (cell_one_new _ _ _) ?c1 ?c2 ?_)
     case c1 => first | rfl | (intro u hu; simp at hu; subst hu; rfl)
     case c2 => omega
     intro w8 hown8 hgr8; have hB8 : Below w.heap.size w7 w8 := ((Below.refl _ w7).alloc HB7.o.size _).grown hgr8 (by have := HB7.o.size; simp; omega) (fun k e => by cases e; exact leR); have HREL : Hid (DigInv g N k n true w (.slice (some ⟨w.heap.size, 0, none⟩) (m + 1) (n + 1)) (.int .i64 ((j : Int) + 1)) w8) := by
      have e1 : (drawn true (ds ++ [48 + 9 * (r7 % 2)])).length = m + 1 := by rw [drawn_snoc, List.length_append, HM.o]; rfl
      refine ⟨j + 1, k7, ds ++ [48 + 9 * (r7 % 2)], by omega, by omega, rfl, ?_, HDL.o.snoc _ (by omega) (by omega), headD_snoc _ _ HHD.o, by omega, by rw [e1], ?_, HC7.o.below (hB8.mono hNw), HB7.o.then hB8⟩
      ·rw [List.length_append, HLEN.o]; rfl
      ·rw [e1, drawn_snoc, U8s_snoc]
       simpa using hown8
     clear hown7 hown8 hgr8 hB8
     go_wp2
     go_roundw
     case rel => exact HREL.o
     case measure => simp [intOf]; omega
    ·have z9 : decide (9 < (r7 : Int)) = false := by rw [decide_eq_false_iff_not]; omega
     go_wp2_with (at_builtin; refine wpList_append_fits _ rfl _ _ 22 rfl w.heap.size 5 i0 1 Tryz.underlying22 hinf hz1 w.heap.size (m) (n + 1) _ rfl (hown7.alloc _) ⟨w7.heap.size, 0, none⟩ 1 1 [_] rfl rfl (cell_one_new _ _ _) ?c1 ?c2 ?_)
     case c1 => first | rfl | (intro u hu; simp at hu; subst hu; rfl)
     case c2 => omega
     intro w8 hown8 hgr8; have hB8 : Below w.heap.size w7 w8 := ((Below.refl _ w7).alloc HB7.o.size _).grown hgr8 (by have := HB7.o.size; simp; omega) (fun k e => by cases e; exact leR); have HREL : Hid (DigInv g N k n true w (.slice (some ⟨w.heap.size, 0, none⟩) (m + 1) (n + 1)) (.int .i64 ((j : Int) + 1)) w8) := by
      have e1 : (drawn true (ds ++ [48 + r7])).length = m + 1 := by rw [drawn_snoc, List.length_append, HM.o]; rfl
      refine ⟨j + 1, k7, ds ++ [48 + r7], by omega, by omega, rfl, ?_, HDL.o.snoc _ (by omega) (by omega), headD_snoc _ _ HHD.o, by omega, by rw [e1], ?_, HC7.o.below (hB8.mono hNw), HB7.o.then hB8⟩
      ·rw [List.length_append, HLEN.o]; rfl
      ·rw [e1, drawn_snoc, U8s_snoc]
       simpa using hown8
     clear hown7 hown8 hgr8 hB8
     go_wp2
     go_roundw
     case rel => exact HREL.o
     case measure => simp [intOf]; omega
   ·have zj : decide ((j : Int) < (n : Int)) = false := by rw [decide_eq_false_iff_not]; omega
    have hconv := conv_bytes _ _ _ _ _ _ hown (drawn_lt hdl) HM.o; clear hdl hhd hlen hbar hcur hown
    go_wp2
    go_ret
    exact ⟨true, ds, kj, rfl, by have := HLEN.o; omega, HDL.o, HHD.o, by omega, HCUR.o, HBAR.o⟩
 have z0 : ((r3 : Int) == 0) = false := by rw [beq_eq_false_iff_ne]; omega
 go_wp2_with fail
 refine (pick_any g N k3 9 _ HC3.o (by omega) (by decide) (by decide)).mono ?_; rintro e w5 ⟨r5, k5, rfl, hr5, hk5, hc5, hb5⟩; have HC5 := Hd hc5; have HB5 := Hd (HB3.o.trans hb5); have HOWN5 := Hd (HOWN3.o.kept hb5.grownBy (.inr (by simp [Value.ownBlock]; omega))); clear hc5 hb5; have hown5 := HOWN5.o
 go_wp2_with (at_builtin; refine wpList_append_fits _ rfl _ _ 22 rfl w.heap.size 5 i0 1 Tryz.underlying22 hinf hz1 w.heap.size (0) (n + 1) _ rfl (hown5.alloc _) ⟨w5.heap.size, 0, none⟩ 1 1 [_] rfl rfl (cell_one_new _ _ _) ?c1 ?c2 ?_)
 case c1 => first | rfl | (intro u hu; simp at hu; subst hu; rfl)
 case c2 => omega
 intro w6 hown6 hgr6; have hB6 : Below w.heap.size w5 w6 := ((Below.refl _ w5).alloc HB5.o.size _).grown hgr6 (by have := HB5.o.size; simp; omega) (fun k e => by cases e; exact leR); have HINV : Hid (DigInv g N k n false w (.slice (some ⟨w.heap.size, 0, none⟩) (0 + 1) (n + 1)) (.int .i64 1) w6) := by
  refine ⟨1, k5, [49 + r5], leR, hn, rfl, rfl, ?_, ?_, by omega, rfl, ?_, HC5.o.below (hB6.mono hNw), HB5.o.then hB6⟩
  ·intro x hx; simp at hx; omega
  ·simp
  simpa [U8s, drawn] using hown6
 clear hown5 hown6 hgr6 hB6
 go_wp2_with fail
 go_loopw [5, 6] (DigInv g N k n false w) (fun _ i _ => n - (intOf i).toNat)
 case atStart => exact HINV.o
 case round =>
  clear HINV; obtain ⟨j, kj, ds, hj1, hj, rfl, hlen, hdl, hhd, hkj, rfl, hown, hcur, hbar⟩ := hrel; obtain ⟨m, hm⟩ := exW ((drawn false ds).length); have HM := Hd hm; have hmj : m = 0 + j := by rw [← hm, drawn_len, hlen]; rfl
  have HMJ := Hd hmj; rw [hm] at hown ⊢; clear hm hmj; have HDL := Hd hdl; have HHD := Hd hhd; have HLEN := Hd hlen; have HBAR := Hd hbar; have HCUR := Hd hcur; have HOWN := Hd hown
  by_cases hlt : j < n
  ·have zj : decide ((j : Int) < (n : Int)) = true := by rw [decide_eq_true_iff]; omega
   have hmn : m + 1 ≤ n + 1 := by have := HMJ.o; omega
   clear hdl hhd hlen hbar hcur hown
   go_wp2_with fail
   refine (pick_any g N kj 14 _ HCUR.o (by omega) (by decide) (by decide)).mono ?_; rintro e w7 ⟨r7, k7, rfl, hr7, hk7, hc7, hb7⟩; have HC7 := Hd hc7; have HB7 := Hd (HBAR.o.trans hb7); have hown7 := HOWN.o.kept hb7.grownBy (.inr (by simp [Value.ownBlock]; omega)); clear hc7 hb7
   by_cases h9 : 9 < r7
   ·have z9 : decide (9 < (r7 : Int)) = true := by rw [decide_eq_true_iff]; omega
    go_wp2_with (at_builtin; refine wpList_append_fits _ rfl _ _ 22 rfl w.heap.size 5 i0 1 Tryz.underlying22 hinf hz1 w.heap.size (m) (n + 1) _ rfl (hown7.alloc _) ⟨w7.heap.size, 0, none⟩ 1 1 [_] rfl rfl (cell_one_new _ _ _) ?c1 ?c2 ?_)
    case c1 => first | rfl | (intro u hu; simp at hu; subst hu; rfl)
    case c2 => omega
    intro w8 hown8 hgr8; have hB8 : Below w.heap.size w7 w8 := ((Below.refl _ w7).alloc HB7.o.size _).grown hgr8 (by have := HB7.o.size; simp; omega) (fun k e => by cases e; exact leR); have HREL : Hid (DigInv g N k n false w (.slice (some ⟨w.heap.size, 0, none⟩) (m + 1) (n + 1)) (.int .i64 ((j : Int) + 1)) w8) := by
     have e1 : (drawn false (ds ++ [48 + 9 * (r7 % 2)])).length = m + 1 := by rw [drawn_snoc, List.length_append, HM.o]; rfl
     refine ⟨j + 1, k7, ds ++ [48 + 9 * (r7 % 2)], by omega, by omega, rfl, ?_, HDL.o.snoc _ (by omega) (by omega), headD_snoc _ _ HHD.o, by omega, by rw [e1], ?_, HC7.o.below (hB8.mono hNw), HB7.o.then hB8⟩
     ·rw [List.length_append, HLEN.o]; rfl
     ·rw [e1, drawn_snoc, U8s_snoc]
      simpa using hown8
    clear hown7 hown8 hgr8 hB8
    go_wp2
    go_roundw
    case rel => exact HREL.o
    case measure => simp [intOf]; omega
   ·have z9 : decide (9 < (r7 : Int)) = false := by rw [decide_eq_false_iff_not]; omega
    go_wp2_with (at_builtin; refine wpList_append_fits _ rfl _ _ 22 rfl w.heap.size 5 i0 1 Tryz.underlying22 hinf hz1 w.heap.size (m) (n + 1) _ rfl (hown7.alloc _) ⟨w7.heap.size, 0, none⟩ 1 1 [_] rfl rfl (cell_one_new _ _ _) ?c1 ?c2 ?_)
    case c1 => first | rfl | (intro u hu; simp at hu; subst hu; rfl)
    case c2 => omega
    intro w8 hown8 hgr8; have hB8 : Below w.heap.size w7 w8 := ((Below.refl _ w7).alloc HB7.o.size _).grown hgr8 (by have := HB7.o.size; simp; omega) (fun k e => by cases e; exact leR); have HREL : Hid (DigInv g N k n false w (.slice (some ⟨w.heap.size, 0, none⟩) (m + 1) (n + 1)) (.int .i64 ((j : Int) + 1)) w8) := by
     have e1 : (drawn false (ds ++ [48 + r7])).length = m + 1 := by rw [drawn_snoc, List.length_append, HM.o]; rfl
     refine ⟨j + 1, k7, ds ++ [48 + r7], by omega, by omega, rfl, ?_, HDL.o.snoc _ (by omega) (by omega), headD_snoc _ _ HHD.o, by omega, by rw [e1], ?_, HC7.o.below (hB8.mono hNw), HB7.o.then hB8⟩
     ·rw [List.length_append, HLEN.o]; rfl
     ·rw [e1, drawn_snoc, U8s_snoc]
      simpa using hown8
    clear hown7 hown8 hgr8 hB8
    go_wp2
    go_roundw
    case rel => exact HREL.o
    case measure => simp [intOf]; omega
  ·have zj : decide ((j : Int) < (n : Int)) = false := by rw [decide_eq_false_iff_not]; omega
   have hconv := conv_bytes _ _ _ _ _ _ hown (drawn_lt hdl) HM.o; clear hdl hhd hlen hbar hcur hown
   go_wp2
   go_ret
   exact ⟨false, ds, kj, rfl, by have := HLEN.o; omega, HDL.o, HHD.o, by omega, HCUR.o, HBAR.o⟩
theorem drawn_size (s : Bool) (ds : List Nat) (n : Nat) (h : ds.length = n) : (strB (bytesOf (drawn s ds))).size ≤ n + 1 := by
 rw [strB_size, bytesOf, List.length_map, drawn_len, h]
 cases s <;> simp; omega
theorem Bx.bar {W W' : World} {b g : Nat} {l : List Value} (h : Bx W b l) (hb : Bar g W W') (hg : b ≠ g) : Bx W' b l := by
 obtain ⟨t, h⟩ := h; exact ⟨t, (hb.block b (Array.getElem?_eq_some_iff.1 h).1 hg).trans h⟩
theorem digS_any (g N k n : Nat) (x : Int) (w : World) (h : IsCur g N w k) (hx : x = (n : Nat)) (hk : k ≤ 1000000000) (hn : 1 ≤ n) (hn2 : n ≤ 3000) :
 Calls Tryz.prog 127 #[.pointer (some ⟨g, 0, none⟩), .int .i64 x] w fun e w' => ∃ (u : ByteArray) (k' : Nat), e = .returned (.string u) ∧ u.size ≤ 6000 ∧ k' ≤ k + 6010 ∧ IsCur g N w' k' ∧ Bar g w w' := by
 subst hx; refine (digits_any g N k n w h hk hn hn2).mono ?_; rintro e w' ⟨s, ds, k', rfl, h1, _, _, h4, h5, h6⟩; exact ⟨_, k', rfl, by have := drawn_size s ds n h1; omega, by omega, h5, h6⟩
theorem full_sz (ng : Bool) (t : List Nat) (h : t.length ≤ 600) : (fullT ng t).size ≤ 6000 := by
 have h1 := textD_len t; unfold fullT
 split
 ·rw [strB_size]; decide
 split
 ·rw [strB_size, List.length_cons]; omega
 rw [strB_size]; omega
set_option maxRecDepth 100000 in
set_option maxHeartbeats 4000000 in
theorem number_any (g N k : Nat) (w : World) (h : IsCur g N w k) (hk : k ≤ 100000000) :
 Calls Tryz.prog 80 #[.pointer (some ⟨g, 0, none⟩)] w fun e w' => ∃ (u : ByteArray) (k' : Nat), e = .returned (.string u) ∧ u.size ≤ 6000 ∧ k' ≤ k + 8000 ∧ IsCur g N w' k' ∧ Bar g w w' := by
 have HC := Hd h; have hNw := h.2.1; clear h
 go_enter Tryz.func80, Tryz.ntmps80
 go_wp2_with fail
 refine (pick_any g N k 12 _ HC.o (by omega) (by decide) (by decide)).mono ?_; rintro e w1 ⟨r, k1, rfl, hr, hk1, hc1, hb1⟩; have HC1 := Hd hc1; have HB1 := Hd hb1; clear hc1 hb1; have hcases : r = 0 ∨ r = 1 ∨ r = 2 ∨ r = 3 ∨ r = 4 ∨ r = 5 ∨ r = 6 ∨ r = 7 ∨ r = 8 ∨ r = 9 ∨ r = 10 ∨ r = 11 := by omega
 rcases hcases with rfl | rfl | rfl | rfl | rfl | rfl | rfl | rfl | rfl | rfl | rfl | rfl
 case' _ =>
  skip
 rotate_left
 case' _ =>
  skip
 rotate_left
 case' _ =>
  skip
 rotate_left
 ·go_wp2_with fail
  refine (pick_any g N k1 4 _ HC1.o (by omega) (by decide) (by decide)).mono ?_; rintro e w2 ⟨r2, k2, rfl, hr2, hk2, hc2, hb2⟩; have HC2 := Hd hc2; have HB2 := Hd (HB1.o.trans hb2); clear hc2 hb2
  go_wp2_with fail
  refine (digS_any g N k2 (8 + r2) _ _ HC2.o (by push_cast; rfl) (by omega) (by omega) (by omega)).mono ?_; rintro e w9 ⟨u, k9, rfl, hu, hk9, hc9, hb9⟩; have HC9 := Hd hc9; have HB9 := Hd (HB2.o.trans hb9); clear hc9 hb9
  go_wp2
  go_ret
  exact ⟨u, k9, rfl, hu, by omega, HC9.o, HB9.o⟩
 ·go_wp2_with fail
  refine (pick_any g N k1 4 _ HC1.o (by omega) (by decide) (by decide)).mono ?_; rintro e w2 ⟨r2, k2, rfl, hr2, hk2, hc2, hb2⟩; have HC2 := Hd hc2; have HB2 := Hd (HB1.o.trans hb2); clear hc2 hb2
  go_wp2_with fail
  refine (digS_any g N k2 (17 + r2) _ _ HC2.o (by push_cast; rfl) (by omega) (by omega) (by omega)).mono ?_; rintro e w9 ⟨u, k9, rfl, hu, hk9, hc9, hb9⟩; have HC9 := Hd hc9; have HB9 := Hd (HB2.o.trans hb9); clear hc9 hb9
  go_wp2
  go_ret
  exact ⟨u, k9, rfl, hu, by omega, HC9.o, HB9.o⟩
 ·go_wp2_with fail
  refine (pick_any g N k1 60 _ HC1.o (by omega) (by decide) (by decide)).mono ?_; rintro e w2 ⟨r2, k2, rfl, hr2, hk2, hc2, hb2⟩; have HC2 := Hd hc2; have HB2 := Hd (HB1.o.trans hb2); clear hc2 hb2
  go_wp2_with fail
  refine (digS_any g N k2 (20 + r2) _ _ HC2.o (by push_cast; rfl) (by omega) (by omega) (by omega)).mono ?_; rintro e w9 ⟨u, k9, rfl, hu, hk9, hc9, hb9⟩; have HC9 := Hd hc9; have HB9 := Hd (HB2.o.trans hb9); clear hc9 hb9
  go_wp2
  go_ret
  exact ⟨u, k9, rfl, hu, by omega, HC9.o, HB9.o⟩
 ·obtain ⟨W1, hW1⟩ := exW (w1.alloc (.cells #[.string ⟨#[]⟩, .string ⟨#[45]⟩, .string ⟨#[45, 48]⟩, .string ⟨#[48, 48]⟩, .string ⟨#[55, 97]⟩, .string ⟨#[43, 49]⟩, .string ⟨#[49, 50, 45]⟩, .string ⟨#[48, 120, 49]⟩, .string ⟨#[32, 49]⟩, .string ⟨#[45, 48, 49]⟩] 9)); have HW1 := Hd hW1; have hbl : Up w1 W1 := by rw [← hW1]; exact below_alloc _ _
  have HX : Hid (Bx W1 w1.heap.size [.string ⟨#[]⟩, .string ⟨#[45]⟩, .string ⟨#[45, 48]⟩, .string ⟨#[48, 48]⟩, .string ⟨#[55, 97]⟩, .string ⟨#[43, 49]⟩, .string ⟨#[49, 50, 45]⟩, .string ⟨#[48, 120, 49]⟩, .string ⟨#[32, 49]⟩, .string ⟨#[45, 48, 49]⟩]) := by show Bx _ _ _; rw [← hW1]; exact bx_new w1 _ _
  have HCa := Hd (HC1.o.below (hbl.mono HC1.o.2.1)); have HBa := Hd (HB1.o.trans (Bar.of hbl)); have HNE : Hid (w1.heap.size ≠ g) := by have h1 := HC1.o.1; have h2 := HC1.o.2.1; show w1.heap.size ≠ g; omega
  clear hW1 hbl
  go_wp2_with fail
  rw [HW1.o]; refine (pick_any g N k1 10 _ HCa.o (by omega) (by decide) (by decide)).mono ?_; rintro e w2 ⟨r2, k2, rfl, hr2, hk2, hc2, hb2⟩; have HC2 := Hd hc2; have HB2 := Hd (HBa.o.trans hb2); have hx2 := HX.o.bar hb2 HNE.o; have hu : ∃ u : ByteArray, ([.string ⟨#[]⟩, .string ⟨#[45]⟩, .string ⟨#[45, 48]⟩, .string ⟨#[48, 48]⟩, .string ⟨#[55, 97]⟩, .string ⟨#[43, 49]⟩, .string ⟨#[49, 50, 45]⟩, .string ⟨#[48, 120, 49]⟩, .string ⟨#[32, 49]⟩, .string ⟨#[45, 48, 49]⟩] : List Value)[r2]? = some (.string u) ∧ u.size ≤ 10 := by
   have : r2 = 0 ∨ r2 = 1 ∨ r2 = 2 ∨ r2 = 3 ∨ r2 = 4 ∨ r2 = 5 ∨ r2 = 6 ∨ r2 = 7 ∨ r2 = 8 ∨ r2 = 9 := by omega
   rcases this with rfl | rfl | rfl | rfl | rfl | rfl | rfl | rfl | rfl | rfl <;> exact ⟨_, rfl, by decide⟩
  obtain ⟨u, hu, hus⟩ := hu; have c := (hx2.cell r2).trans hu; clear hc2 hb2 hx2 hu
  go_wp2
  go_ret
  exact ⟨u, k2, rfl, by omega, by omega, HC2.o, HB2.o⟩
 ·go_wp2_with fail
  refine (pick_any g N k1 64 _ HC1.o (by omega) (by decide) (by decide)).mono ?_; rintro e w2 ⟨r2, k2, rfl, hr2, hk2, hc2, hb2⟩; have HC2 := Hd hc2; have HB2 := Hd (HB1.o.trans hb2); clear hc2 hb2
  go_wp2_with fail
  refine (pick_any g N k2 2 _ HC2.o (by omega) (by decide) (by decide)).mono ?_; rintro e w3 ⟨r3, k3, rfl, hr3, hk3, hc3, hb3⟩; have HC3 := Hd hc3; have HB3 := Hd (HB2.o.trans hb3); clear hc3 hb3; obtain ⟨m, hm, hml⟩ := wrap_u64_ex (IntKind.u64.wrap (2 ^ r2) - ↑r3); have HM := Hd hm; clear hm
  go_wp2_with fail
  rw [HM.o]; refine (specOf_any m _ hml).mono ?_; rintro e w4 ⟨t, ⟨_, _, _, hl⟩, rfl, hb4⟩; have HB4 := Hd (HB3.o.trans (Bar.of hb4)); have HC4 := Hd (HC3.o.below (hb4.mono HC3.o.2.1)); have HSZ := Hd (full_sz false t (by omega)); clear hb4
  go_wp2
  go_ret
  exact ⟨_, k3, rfl, HSZ.o, by omega, HC4.o, HB4.o⟩
 ·go_wp2_with fail
  refine (pick_any g N k1 6 _ HC1.o (by omega) (by decide) (by decide)).mono ?_; rintro e w2 ⟨r2, k2, rfl, hr2, hk2, hc2, hb2⟩; have HC2 := Hd hc2; have HB2 := Hd (HB1.o.trans hb2); clear hc2 hb2
  by_cases h0 : r2 = 0
  case' pos =>
   have z0 : ((r2 : Int) == 0) = true := by rw [beq_iff_eq]; omega
   go_wp2_with fail
   refine (pick_any g N k2 3 _ HC2.o (by omega) (by decide) (by decide)).mono ?_; rintro e w3 ⟨r3, k3, rfl, hr3, hk3, hc3, hb3⟩; have HC3 := Hd hc3; have HB3 := Hd (HB2.o.trans hb3); clear hc3 hb3
   go_wp2_with fail
   refine (digS_any g N k3 (2499 + r3) _ _ HC3.o (by push_cast; rfl) (by omega) (by omega) (by omega)).mono ?_
  case' neg =>
   have z0 : ((r2 : Int) == 0) = false := by rw [beq_eq_false_iff_ne]; omega
   go_wp2_with fail
   refine (pick_any g N k2 4 _ HC2.o (by omega) (by decide) (by decide)).mono ?_; rintro e w3 ⟨r3, k3, rfl, hr3, hk3, hc3, hb3⟩; have HC3 := Hd hc3; have HB3 := Hd (HB2.o.trans hb3); clear hc3 hb3
   go_wp2_with fail
   refine (digS_any g N k3 (9 * (1 + r3)) _ _ HC3.o (by push_cast; rfl) (by omega) (by omega) (by omega)).mono ?_
  all_goals
   rintro e w9 ⟨u, k9, rfl, hu, hk9, hc9, hb9⟩; have HC9 := Hd hc9; have HB9 := Hd (HB3.o.trans hb9); clear hc9 hb9
   go_wp2
   go_ret
   exact ⟨u, k9, rfl, hu, by omega, HC9.o, HB9.o⟩
 ·go_wp2_with fail
  refine (pick_any g N k1 12 _ HC1.o (by omega) (by decide) (by decide)).mono ?_; rintro e w2 ⟨r2, k2, rfl, hr2, hk2, hc2, hb2⟩; have HC2 := Hd hc2; have HB2 := Hd (HB1.o.trans hb2); clear hc2 hb2
  go_wp2_with fail
  refine (digS_any g N k2 (1 + r2) _ _ HC2.o (by push_cast; rfl) (by omega) (by omega) (by omega)).mono ?_; rintro e w9 ⟨u, k9, rfl, hu, hk9, hc9, hb9⟩; have HC9 := Hd hc9; have HB9 := Hd (HB2.o.trans hb9); clear hc9 hb9
  go_wp2
  go_ret
  exact ⟨u, k9, rfl, hu, by omega, HC9.o, HB9.o⟩
 ·go_wp2_with fail
  refine (pick_any g N k1 12 _ HC1.o (by omega) (by decide) (by decide)).mono ?_; rintro e w2 ⟨r2, k2, rfl, hr2, hk2, hc2, hb2⟩; have HC2 := Hd hc2; have HB2 := Hd (HB1.o.trans hb2); clear hc2 hb2
  go_wp2_with fail
  refine (digS_any g N k2 (1 + r2) _ _ HC2.o (by push_cast; rfl) (by omega) (by omega) (by omega)).mono ?_; rintro e w9 ⟨u, k9, rfl, hu, hk9, hc9, hb9⟩; have HC9 := Hd hc9; have HB9 := Hd (HB2.o.trans hb9); clear hc9 hb9
  go_wp2
  go_ret
  exact ⟨u, k9, rfl, hu, by omega, HC9.o, HB9.o⟩
 ·go_wp2_with fail
  refine (pick_any g N k1 12 _ HC1.o (by omega) (by decide) (by decide)).mono ?_; rintro e w2 ⟨r2, k2, rfl, hr2, hk2, hc2, hb2⟩; have HC2 := Hd hc2; have HB2 := Hd (HB1.o.trans hb2); clear hc2 hb2
  go_wp2_with fail
  refine (digS_any g N k2 (1 + r2) _ _ HC2.o (by push_cast; rfl) (by omega) (by omega) (by omega)).mono ?_; rintro e w9 ⟨u, k9, rfl, hu, hk9, hc9, hb9⟩; have HC9 := Hd hc9; have HB9 := Hd (HB2.o.trans hb9); clear hc9 hb9
  go_wp2
  go_ret
  exact ⟨u, k9, rfl, hu, by omega, HC9.o, HB9.o⟩
 all_goals
  go_wp2_with fail
  refine (pick_any g N k1 24 _ HC1.o (by omega) (by decide) (by decide)).mono ?_; rintro e w2 ⟨r2, k2, rfl, hr2, hk2, hc2, hb2⟩; have HC2 := Hd hc2; have HB2 := Hd (HB1.o.trans hb2); clear hc2 hb2
  go_wp2_with fail
  refine (l1Small_any _ _ (by omega) (by omega)).mono ?_; rintro e w3 ⟨z, rfl, ⟨ng, t, hz, _, hl⟩, hb3⟩; have HZ := Hd hz; have HB3 := Hd (HB2.o.trans (Bar.of hb3)); have HC3 := Hd (HC2.o.below (hb3.mono HC2.o.2.1)); have HLE : Hid (w2.heap.size ≤ w3.heap.size) := hb3.size; clear hz hb3
  go_wp2_with fail
  refine (l1Text_any _ _ ng t _ HZ.o HLE.o (by omega)).mono ?_; rintro e w4 ⟨rfl, hb4⟩; have HB4 := Hd (HB3.o.trans (Bar.of hb4)); have HC4 := Hd (HC3.o.below (hb4.mono HC3.o.2.1)); have HSZ := Hd (full_sz (negOf ng t) t (by omega)); clear hb4
  go_wp2
  go_ret
  exact ⟨_, k2, rfl, HSZ.o, by omega, HC4.o, HB4.o⟩
def CodeArg (w : World) (a : Option Addr) (n cap : Nat) : Prop := n ≤ cap ∧ cap ≤ maxLen ∧ ∀ i, i < n → ∃ b off v : Nat, a = some ⟨b, off, none⟩ ∧ b < w.heap.size ∧ v < 256 ∧ w.cell? ⟨b, off + i, none⟩ = some (.int .u8 v)
theorem CodeArg.below {w w' : World} {a : Option Addr} {n cap : Nat} (h : CodeArg w a n cap) (hb : Up w w') : CodeArg w' a n cap :=
 ⟨h.1, h.2.1, fun i hi => by
  obtain ⟨b, off, v, e, h1, h2, h3⟩ := h.2.2 i hi
  exact ⟨b, off, v, e, Nat.lt_of_lt_of_le h1 hb.size, h2, (hb.cell (p := ⟨b, off + i, none⟩) h1).trans h3⟩⟩
theorem cur_new {w : World} {a : Option Addr} {n cap : Nat} (h : CodeArg w a n cap) (ty : TypeId) : IsCur w.heap.size (w.heap.size + 1) (w.alloc (.cells #[.slice a n cap, .int .i64 0, .int .u64 0] ty)) 0 := by
 refine ⟨Nat.lt_succ_self _, by rw [World.size_alloc]; exact leR, a, n, cap, 0, bx_new w _ ty, by decide, h.1, h.2.1, fun i hi => ?_⟩; obtain ⟨b, off, v, e, h1, h2, h3⟩ := h.2.2 i hi; exact ⟨b, off, v, e, by omega, by omega, h2, ((below_alloc w _).cell (p := ⟨b, off + i, none⟩) h1).trans h3⟩
theorem strB_ext0 (c : UInt8) (l : List UInt8) : ((strB (c :: l)).extract 0 1).toList = [c] := by
 rw [ByteArray.toList_eq]; simp [strB]
theorem strB_ext1 (c : UInt8) (l : List UInt8) : ((strB (c :: l)).extract 1 (strB (c :: l)).size).data.toList = l := by
 rw [strB_size]; simp [strB]
theorem digL_bytes {ds : List Nat} (h : DigL ds) : (bytesOf ds).all isDig = true := by
 rw [List.all_eq_true]; intro c hc; unfold bytesOf at hc; rw [List.mem_map] at hc; obtain ⟨x, hx, rfl⟩ := hc; have := h x hx; unfold isDig; rw [decide_eq_true_iff, UInt8.toNat_ofNat_of_lt' (by simp [UInt8.size]; omega)]; exact this
theorem drawn_int (s : Bool) (ds : List Nat) (h : DigL ds) (hh : 49 ≤ ds.headD 0) (h2 : ds.length ≤ 2500) : isIntB (strB (bytesOf (drawn s ds))) = true ∧ ((strB (bytesOf (drawn s ds))).toList == [48]) = false := by
 cases ds with
 | nil => simp at hh
 | cons d l =>
   have hd := h d (by simp); have hd49 : 49 ≤ d := by simpa using hh
   have hall := digL_bytes h; have hne : UInt8.ofNat d ≠ 48 := fun e => by
    have := congrArg UInt8.toNat e; rw [UInt8.toNat_ofNat_of_lt' (by simp [UInt8.size]; omega)] at this; have e48 : (48 : UInt8).toNat = 48 := rfl; omega
   have hne45 : UInt8.ofNat d ≠ 45 := fun e => by
    have := congrArg UInt8.toNat e; rw [UInt8.toNat_ofNat_of_lt' (by simp [UInt8.size]; omega)] at this; have e45 : (45 : UInt8).toNat = 45 := rfl; omega
   cases s
   ·have e1 : bytesOf (drawn false (d :: l)) = UInt8.ofNat d :: bytesOf l := by simp [drawn, bytesOf]
    have en : isNeg (strB (UInt8.ofNat d :: bytesOf l)) = false := by
     unfold isNeg; rw [strB_ext0]; simp [hne45]
    have ed : dgs (strB (UInt8.ofNat d :: bytesOf l)) = strB (UInt8.ofNat d :: bytesOf l) := by unfold dgs; rw [en]; rfl
    have hb : (strB (UInt8.ofNat d :: bytesOf l)).data.toList = UInt8.ofNat d :: bytesOf l := by simp [strB]
    have hsz : (strB (UInt8.ofNat d :: bytesOf l)).size = l.length + 1 := by rw [strB_size]; simp [bytesOf]
    rw [e1]; refine ⟨?_, ?_⟩
    ·unfold isIntB; rw [ed, hb, hsz]; have h3 : (UInt8.ofNat d :: bytesOf l).all isDig = true := by simpa [bytesOf] using hall
     rw [h3]; have : l.length + 1 ≤ 2500 := by simpa using h2
     simp [this, hne]
    ·rw [ByteArray.toList_eq, hb]; simp [hne]
   ·have e1 : bytesOf (drawn true (d :: l)) = 45 :: UInt8.ofNat d :: bytesOf l := by simp [drawn, bytesOf]
    have en : isNeg (strB (45 :: UInt8.ofNat d :: bytesOf l)) = true := by
     unfold isNeg; rw [strB_ext0]; rfl
    have ed : (dgs (strB (45 :: UInt8.ofNat d :: bytesOf l))).data.toList = UInt8.ofNat d :: bytesOf l := by
     unfold dgs; rw [en]; exact strB_ext1 45 _
    have hsz : (dgs (strB (45 :: UInt8.ofNat d :: bytesOf l))).size = l.length + 1 := by
     have h5 : (dgs (strB (45 :: UInt8.ofNat d :: bytesOf l))).data.toList.length = (dgs (strB (45 :: UInt8.ofNat d :: bytesOf l))).size := by simp
     rw [← h5, ed]; simp [bytesOf]
    have hb : (strB (45 :: UInt8.ofNat d :: bytesOf l)).data.toList = 45 :: UInt8.ofNat d :: bytesOf l := by simp [strB]
    rw [e1]; refine ⟨?_, ?_⟩
    ·unfold isIntB; rw [ed, hsz]; have h3 : (UInt8.ofNat d :: bytesOf l).all isDig = true := by simpa [bytesOf] using hall
     rw [h3]; have : l.length + 1 ≤ 2500 := by simpa using h2
     simp [this, hne]
    ·rw [ByteArray.toList_eq, hb]; simp
theorem IsL.bar {B g : Nat} {w w' : World} {v : Value} {l : List Nat} (h : IsL B w v l) (hb : Bar g w w') (hg : g < B) : IsL B w' v l := by
 obtain ⟨a, cap, rfl, hl, hcap, hok, hr⟩ := h; refine ⟨a, cap, rfl, hl, hcap, hok, ?_⟩
 rcases hr with rfl | ⟨b, off, rfl, hB, hlt, hc⟩
 ·exact .inl rfl
 refine .inr ⟨b, off, rfl, hB, Nat.lt_of_lt_of_le hlt hb.size, fun i hi => ?_⟩; rw [hb.cell (p := ⟨b, off + i, none⟩) hlt (by show b ≠ g; omega)]; exact hc i hi
theorem NumZ.bar {B g : Nat} {w w' : World} {z : Value} {x : Int} {n : Nat} (h : NumZ B w z x n) (hb : Bar g w w') (hg : g < B) : NumZ B w' z x n := by
 obtain ⟨neg, t, ⟨h1, h2, h3⟩, e, hl⟩ := h; refine ⟨neg, t, ⟨h1, h2, ?_⟩, e, hl⟩
 rcases h3 with ⟨h3, v, rfl, hv⟩ | h3
 ·exact .inl ⟨h3, v, rfl, hv.bar hb hg⟩
 exact .inr h3
theorem digX_any (g N k n : Nat) (x : Int) (w : World) (h : IsCur g N w k) (hx : x = (n : Nat)) (hk : k ≤ 1000000000) (hn : 1 ≤ n) (hn2 : n ≤ 2500) :
 Calls Tryz.prog 127 #[.pointer (some ⟨g, 0, none⟩), .int .i64 x] w fun e w' => ∃ (u : ByteArray) (k' : Nat), e = .returned (.string u) ∧ isIntB u = true ∧ numT u ≠ 0 ∧ k' ≤ k + 6010 ∧ IsCur g N w' k' ∧ Bar g w w' := by
 subst hx; refine (digits_any g N k n w h hk hn (by omega)).mono ?_; rintro e w' ⟨s, ds, k', rfl, h1, h2, h3, h4, h5, h6⟩; obtain ⟨i1, i2⟩ := drawn_int s ds h2 h3 (by omega); exact ⟨_, k', rfl, i1, zero_text _ i1 i2, by omega, h5, h6⟩
theorem low_bd {x y a b : Int} {k : Nat} (h : IsLow x y a b) (hx : x.natAbs < lb k) (hy : y.natAbs < lb k) : a.natAbs < lb k ∧ b.natAbs < lb k := by
 obtain ⟨c, c0, e1, e2, _⟩ := h; have h1 := abs_le_mul a c c0; have h2 := abs_le_mul b c c0; rw [← e1] at h1; rw [← e2] at h2; exact ⟨Nat.lt_of_le_of_lt h1 hx, Nat.lt_of_le_of_lt h2 hy⟩
theorem l2TextS_any (B : Nat) (z : Value) (x y : Int) (w : World) (hBw : B ≤ w.heap.size) (h : IsQN B w z x y) (hx : x.natAbs < lb 600) (hy : y.natAbs < lb 600) :
 Calls Tryz.prog 65 #[z] w fun e w' => ∃ u : ByteArray, e = .returned (.string u) ∧ u.size ≤ 12001 ∧ Up w w' := by
 have h' := h; obtain ⟨p0, pn, pa, pl, pc, q0, qn, qa, ql, qc, rfl, ⟨n1, t1, hz1, e1, _⟩, n2, t2, hz2, e2, _⟩ := h; have l1 : t1.length ≤ 600 := len_lt t1 hz1.2.1 600 (by rw [← e1, sg_abs] at hx; exact hx); have l2 : t2.length ≤ 600 := len_lt t2 hz2.2.1 600 (by rw [← e2, sg_abs] at hy; exact hy); refine (l2Text_any B p0 pn pa pl pc q0 qn qa ql qc n1 n2 t1 t2 x y w hBw h' hz1 hz2 l1 l2).mono ?_; rintro e w' ⟨rfl, hb⟩; refine ⟨_, rfl, ?_, hb⟩; have s1 := full_sz (negOf n1 t1) t1 l1; have s2 := full_sz (negOf n2 t2) t2 l2; have e47 : (⟨#[47]⟩ : ByteArray).size = 1 := rfl
 split
 ·omega
 rw [ByteArray.size_append, ByteArray.size_append]; omega
set_option maxRecDepth 100000 in
set_option maxHeartbeats 4000000 in
theorem rat_any (g N k : Nat) (w : World) (h : IsCur g N w k) (hk : k ≤ 10000000) :
 Calls Tryz.prog 106 #[.pointer (some ⟨g, 0, none⟩)] w fun e w' => ∃ (u : ByteArray) (k' : Nat), e = .returned (.string u) ∧ u.size ≤ 14000 ∧ k' ≤ k + 10000 ∧ IsCur g N w' k' ∧ Bar g w w' := by
 have HC := Hd h; have hgN := h.1; have hNw := h.2.1; clear h
 go_enter Tryz.func106, Tryz.ntmps106
 go_wp2_with fail
 refine (pick_any g N k 3 _ HC.o (by omega) (by decide) (by decide)).mono ?_; rintro e w1 ⟨r1, k1, rfl, hr1, hk1, hc1, hb1⟩; have HC1 := Hd hc1; have HB1 := Hd hb1; clear hc1 hb1
 by_cases h0 : r1 = 0
 ·have z0 : ((r1 : Int) == 0) = true := by rw [beq_iff_eq]; omega
  go_wp2_with fail
  refine (number_any g N k1 _ HC1.o (by omega)).mono ?_; rintro e w2 ⟨u, k2, rfl, hu, hk2, hc2, hb2⟩; have HC2 := Hd hc2; have HB2 := Hd (HB1.o.trans hb2); clear hc2 hb2
  go_wp2
  go_ret
  exact ⟨u, k2, rfl, by omega, by omega, HC2.o, HB2.o⟩
 have z0 : ((r1 : Int) == 0) = false := by rw [beq_eq_false_iff_ne]; omega
 go_wp2_with fail
 refine (pick_any g N k1 41 _ HC1.o (by omega) (by decide) (by decide)).mono ?_; rintro e w2 ⟨r2, k2, rfl, hr2, hk2, hc2, hb2⟩; have HC2 := Hd hc2; have HB2 := Hd (HB1.o.trans hb2); clear hc2 hb2 z0 h0
 go_wp2_with fail
 refine (l1Small_any _ _ (by omega) (by omega)).mono ?_; rintro e w3 ⟨zp, rfl, hzp, hb3⟩; obtain ⟨p0, pn, pa, pl, pc, rfl⟩ := hzp.isN.shape; obtain ⟨W3, hW3⟩ := exW (w3.alloc (.cells #[.int .i64 p0, .bool pn, .slice pa pl pc] 54)); have HW3 := Hd hW3; have hB3 : Up w3 W3 := by rw [← hW3]; exact below_alloc _ _
 have hB23 : Up w2 W3 := hb3.trans (hB3.mono hb3.size); have HXP : Hid (Bx W3 w3.heap.size [.int .i64 p0, .bool pn, .slice pa pl pc]) := by show Bx _ _ _; rw [← hW3]; exact bx_new w3 _ _
 have HP := Hd ((hzp.below hB3).mono (B' := N) HC2.o.2.1); have HC3 := Hd (HC2.o.below (hB23.mono HC2.o.2.1)); have HB3 := Hd (HB2.o.trans (Bar.of hB23)); have HGP : Hid (g ≠ w3.heap.size ∧ w.heap.size ≤ w3.heap.size) := by have h1 := HC2.o.1; have h2 := HC2.o.2.1; have h3 := hb3.size; have h4 := HB2.o.size; exact ⟨by omega, by omega⟩
 clear hzp hb3 hW3 hB3 hB23; obtain ⟨bp, hbp⟩ := exW w3.heap.size; rw [hbp] at HXP HGP; have HBP := Hd hbp; clear hbp
 go_upto_region 4 with fail
 rw [HW3.o, HBP.o]
 go_wp2_with fail
 refine (pick_any g N k2 12 _ HC3.o (by omega) (by decide) (by decide)).mono ?_; rintro e w4 ⟨r4, k4, rfl, hr4, hk4, hc4, hb4⟩; have HC4 := Hd hc4; have HB4 := Hd (HB3.o.trans hb4); have HXP4 := Hd (HXP.o.bar hb4 (fun e => HGP.o.1 e.symm)); have HP4 := Hd (HP.o.bar hb4 hgN); clear hc4 hb4
 go_wp2_with fail
 refine (l1Small_any _ _ (by omega) (by omega)).mono ?_; rintro e w5 ⟨zq, rfl, hzq, hb5⟩; obtain ⟨q0, qn, qa, ql, qc, rfl⟩ := hzq.isN.shape; obtain ⟨W5, hW5⟩ := exW (w5.alloc (.cells #[.int .i64 q0, .bool qn, .slice qa ql qc] 54)); have HW5 := Hd hW5; have hB5 : Up w5 W5 := by rw [← hW5]; exact below_alloc _ _
 have hB45 : Up w4 W5 := hb5.trans (hB5.mono hb5.size); have HXQ : Hid (Bx W5 w5.heap.size [.int .i64 q0, .bool qn, .slice qa ql qc]) := by show Bx _ _ _; rw [← hW5]; exact bx_new w5 _ _
 have HXP5 := Hd (HXP4.o.below HXP4.o.lt hB45); have HQ5 := Hd ((hzq.below hB5).mono (B' := N) HC4.o.2.1); have HP5 := Hd (HP4.o.below hB45); have HC5 := Hd (HC4.o.below (hB45.mono HC4.o.2.1)); have HB5 := Hd (HB4.o.trans (Bar.of hB45)); have HGQ : Hid (g ≠ w5.heap.size ∧ w.heap.size ≤ w5.heap.size ∧ bp ≠ w5.heap.size) := by have h1 := HC4.o.1; have h2 := HC4.o.2.1; have h3 := hb5.size; have h4 := HB4.o.size; have h5 := HXP4.o.lt; exact ⟨by omega, by omega, by omega⟩
 have HXL : Hid (((r2 : Int) - 20).natAbs < lb 600) := lb_le 1 600 (by decide) (by unfold lb; omega); obtain ⟨bq, hbq⟩ := exW w5.heap.size; rw [hbq] at HXQ HGQ; have HBQ := Hd hbq; clear hzq hb5 hW5 hB5 hB45 hbq
 go_upto_region 5 with fail
 rw [HW5.o, HBQ.o]
 go_wp2_with fail
 refine (pick_any g N k4 8 _ HC5.o (by omega) (by decide) (by decide)).mono ?_; rintro e w6 ⟨r6, k6, rfl, hr6, hk6, hc6, hb6⟩; have HC6 := Hd hc6; have HB6 := Hd (HB5.o.trans hb6); have HXP6 := Hd (HXP5.o.bar hb6 (fun e => HGP.o.1 e.symm)); have HXQ6 := Hd (HXQ.o.bar hb6 (fun e => HGQ.o.1 e.symm)); have HP6 := Hd (HP5.o.bar hb6 hgN); have HQ6 := Hd (HQ5.o.bar hb6 hgN); clear hc6 hb6
 by_cases h6 : r6 = 0
 ·have z6 : ((r6 : Int) == 0) = true := by rw [beq_iff_eq]; omega
  clear h6; obtain ⟨np, tp, hzp, _, hlp⟩ := HP6.o; obtain ⟨nq, tq, hzq, _, hlq⟩ := HQ6.o; have T1 : Hid (∀ W, Up w6 W → Calls Tryz.prog 91 #[.agg #[.int .i64 p0, .bool pn, .slice pa pl pc]] W (fun e w' => e = .returned (.string (fullT (negOf np tp) tp)) ∧ Up W w')) := fun W hW => l1Text_any N _ np tp W (hzp.below hW) (Nat.le_trans HC6.o.2.1 hW.size) (by omega); have T2 : Hid (∀ W, Up w6 W → Calls Tryz.prog 91 #[.agg #[.int .i64 q0, .bool qn, .slice qa ql qc]] W (fun e w' => e = .returned (.string (fullT (negOf nq tq) tq)) ∧ Up W w')) := fun W hW => l1Text_any N _ nq tq W (hzq.below hW) (Nat.le_trans HC6.o.2.1 hW.size) (by omega); have hs1 := full_sz (negOf np tp) tp (by omega); have hs2 := full_sz (negOf nq tq) tq (by omega); obtain ⟨f1, hf1⟩ : ∃ f, fullT (negOf np tp) tp = f := ⟨_, rfl⟩; obtain ⟨f2, hf2⟩ : ∃ f, fullT (negOf nq tq) tq = f := ⟨_, rfl⟩; rw [hf1] at T1 hs1; rw [hf2] at T2 hs2; have e47 : (⟨#[47]⟩ : ByteArray).size = 1 := rfl; have hc1 : (f1 ++ (⟨#[47]⟩ : ByteArray)).size ≤ 7000 := by rw [ByteArray.size_append]; omega
  have hc2 : (f1 ++ (⟨#[47]⟩ : ByteArray) ++ f2).size ≤ 14000 := by rw [ByteArray.size_append]; omega
  have HS : Hid (∀ W, Up w6 W → W.cell? ⟨bp, 0, none⟩ = some (.int .i64 p0) ∧ W.cell? ⟨bp, 1, none⟩ = some (.bool pn) ∧ W.cell? ⟨bp, 2, none⟩ = some (.slice pa pl pc) ∧ W.cell? ⟨bq, 0, none⟩ = some (.int .i64 q0) ∧ W.cell? ⟨bq, 1, none⟩ = some (.bool qn) ∧ W.cell? ⟨bq, 2, none⟩ = some (.slice qa ql qc)) := fun W hW => ⟨(HXP6.o.below HXP6.o.lt hW).cell 0, (HXP6.o.below HXP6.o.lt hW).cell 1, (HXP6.o.below HXP6.o.lt hW).cell 2, (HXQ6.o.below HXQ6.o.lt hW).cell 0, (HXQ6.o.below HXQ6.o.lt hW).cell 1, (HXQ6.o.below HXQ6.o.lt hW).cell 2⟩; obtain ⟨a0, a1, a2, b0, b1, b2⟩ := HS.o w6 (Below.refl _ _); clear hf1 hf2 hzp hzq hlp hlq
  go_wp2_with fail
  go_region_with (first
   | (go_at_call_of 91 (Value.int IntKind.i64 p0)
      refine (T1.o _ ?_).mono ?_
      ·exact (Below.refl _ w6).drew
      rintro e wa ⟨rfl, hba⟩; have HBA : Hid (Up w6 wa) := (Below.refl _ w6).drew.trans hba; obtain ⟨_, _, _, m3, m4, m5⟩ := HS.o wa HBA.o; clear hba)
   | (go_at_call_of 91 (Value.int IntKind.i64 q0)
      refine (T2.o _ ?_).mono ?_
      ·exact HBA.o
      rintro e wb ⟨rfl, hbb⟩; have HBB := Hd (HBA.o.trans (hbb.mono HBA.o.size)); clear hbb))
  all_goals
   go_wp2
   go_ret
   exact ⟨_, k6, rfl, hc2, by omega, HC6.o.below (HBB.o.mono HC6.o.2.1), HB6.o.trans (Bar.of HBB.o)⟩
 have z6 : ((r6 : Int) == 0) = false := by rw [beq_eq_false_iff_ne]; omega
 clear h6
 go_wp2_with fail
 refine (pick_any g N k6 8 _ HC6.o (by omega) (by decide) (by decide)).mono ?_; rintro e w7 ⟨r7, k7, rfl, hr7, hk7, hc7, hb7⟩; have HC7 := Hd hc7; have HB7 := Hd (HB6.o.trans hb7); have HXP7 := Hd (HXP6.o.bar hb7 (fun e => HGP.o.1 e.symm)); have HXQ7 := Hd (HXQ6.o.bar hb7 (fun e => HGQ.o.1 e.symm)); have HP7 := Hd (HP6.o.bar hb7 hgN); have HQ7 := Hd (HQ6.o.bar hb7 hgN); clear hc7 hb7 z6
 by_cases h7 : r7 = 0
 ·have z7 : ((r7 : Int) == 0) = true := by rw [beq_iff_eq]; omega
  clear h7
  go_wp2_with fail
  refine (pick_any g N k7 25 _ HC7.o (by omega) (by decide) (by decide)).mono ?_; rintro e w8 ⟨r8, k8, rfl, hr8, hk8, hc8, hb8⟩; have HC8 := Hd hc8; have HB78 := Hd hb8; clear hc8 hb8
  go_wp2_with fail
  refine (digX_any g N k8 (1 + r8) _ _ HC8.o (by push_cast; rfl) (by omega) (by omega) (by omega)).mono ?_; rintro e w9 ⟨v, k9, rfl, hi, hnz, hk9, hc9, hb9⟩; have HI := Hd hi; have HNZ := Hd hnz; have HC9 := Hd hc9; have HB79 := Hd (HB78.o.trans hb9); clear hi hnz hc9 hb9
  go_wp2_with fail
  refine (l1Read_any v _ HI.o).mono ?_; rintro e w10 ⟨z, rfl, hz, hb10⟩; obtain ⟨t0, tn, ta, tl, tc, rfl⟩ := hz.shape; have HB710 : Hid (Bar g w7 w10) := HB79.o.trans (Bar.of hb10); have HC10 := Hd (HC9.o.below (hb10.mono HC9.o.2.1)); have hxp := HXP7.o.bar HB710.o (fun e => HGP.o.1 e.symm); have hxq := HXQ7.o.bar HB710.o (fun e => HGQ.o.1 e.symm); have hnQ : NoInt w10 bq := noInt_of hxq (by simp); have hkp := Keeps.three w10 bq (.int .i64 t0) (.bool tn) (.slice ta tl tc); obtain ⟨W11, hW11⟩ := exW (((w10.setCell ⟨bq, 0, none⟩ (.int .i64 t0)).setCell ⟨bq, 1, none⟩ (.bool tn)).setCell ⟨bq, 2, none⟩ (.slice ta tl tc)); have HW11 := Hd hW11; have HP11 : Hid (NumZ N W11 (.agg #[.int .i64 p0, .bool pn, .slice pa pl pc]) ((r2 : Int) - 20) 3) := by
   have h2 := (HP7.o.bar HB710.o hgN).keeps hnQ hnQ hkp; rw [hW11] at h2; exact h2
  have HQ11 : Hid (NumZ N W11 (.agg #[.int .i64 t0, .bool tn, .slice ta tl tc]) (numT v) 280) := by
   have h1 : NumZ N w10 (.agg #[.int .i64 t0, .bool tn, .slice ta tl tc]) (numT v) 280 := ⟨_, _, hz.mono HC9.o.2.1, rfl, lim_len' v HI.o⟩; have h2 := h1.keeps hnQ hnQ hkp; rw [hW11] at h2; exact h2
  have hbs := belowSet3 (Below.refl w.heap.size w10) bq HGQ.o.2.1 (.int .i64 t0) (.bool tn) (.slice ta tl tc); rw [hW11] at hbs; have HC11 := Hd (HC10.o.below (hbs.mono hNw)); have HB11 : Hid (Bar g w W11) := (HB7.o.trans HB710.o).then hbs; have HXP11 : Hid (Bx W11 bp [.int .i64 p0, .bool pn, .slice pa pl pc]) := by
   have h := off3 hxp (k := bq) (fun e => HGQ.o.2.2 e.symm) (.int .i64 t0) (.bool tn) (.slice ta tl tc); rw [hW11] at h; exact h
  have HXQ11 : Hid (Bx W11 bq [.int .i64 t0, .bool tn, .slice ta tl tc]) := by
   have h : Bx (((w10.setCell ⟨bq, 0, none⟩ (.int .i64 t0)).setCell ⟨bq, 1, none⟩ (.bool tn)).setCell ⟨bq, 2, none⟩ (.slice ta tl tc)) bq [.int .i64 t0, .bool tn, .slice ta tl tc] := ((hxq.set 0 _).set 1 _).set 2 _; rw [hW11] at h; exact h
  have HY : Hid (numT v ≠ 0) := HNZ.o; have HYL : Hid ((numT v).natAbs < lb 600) := lb_le 280 600 (by decide) (numT_lt v HI.o); obtain ⟨c0, c1, c2⟩ := hxq.c3; obtain ⟨x0, x1, x2⟩ := hxq.f3; clear hz hb10 hxp hxq hnQ hkp hW11 hbs; obtain ⟨a0, a1, a2⟩ := HXP11.o.c3; obtain ⟨b0, b1, b2⟩ := HXQ11.o.c3
  go_upto_region 9 with fail
  rw [HW11.o]
  go_wp2_with fail
  refine (l2Make_any N _ _ _ _ _ HC11.o.2.1 (numZ_le HP11.o (by omega)) (numZ_le HQ11.o (by omega)) HY.o).mono ?_; rintro e w20 ⟨z, x, y, rfl, hq, hlow, hb20⟩; have HQN := Hd hq; have HBD := Hd (low_bd hlow HXL.o HYL.o); have HB20 := Hd (HB11.o.trans (Bar.of hb20)); have HC20 := Hd (HC11.o.below (hb20.mono HC11.o.2.1)); clear hq hlow hb20 a0 a1 a2 b0 b1 b2
  go_wp2_with fail
  refine (l2TextS_any N z x y _ HC20.o.2.1 HQN.o HBD.o.1 HBD.o.2).mono ?_; rintro e w21 ⟨u, rfl, hu, hb21⟩; have HB21 := Hd (HB20.o.trans (Bar.of hb21)); have HC21 := Hd (HC20.o.below (hb21.mono HC20.o.2.1)); clear hb21
  go_wp2
  go_ret
  exact ⟨u, k9, rfl, by omega, by omega, HC21.o, HB21.o⟩
 have z7 : ((r7 : Int) == 0) = false := by rw [beq_eq_false_iff_ne]; omega
 have HY : Hid (1 + (r4 : Int) ≠ 0) := by unfold Hid; omega
 have HYL : Hid ((1 + (r4 : Int)).natAbs < lb 600) := lb_le 1 600 (by decide) (by unfold lb; omega); clear h7; obtain ⟨a0, a1, a2⟩ := HXP7.o.c3; obtain ⟨b0, b1, b2⟩ := HXQ7.o.c3
 go_wp2_with fail
 refine (l2Make_any N _ _ _ _ _ HC7.o.2.1 (numZ_le HP7.o (by omega)) (numZ_le HQ7.o (by omega)) HY.o).mono ?_; rintro e w20 ⟨z, x, y, rfl, hq, hlow, hb20⟩; have HQN := Hd hq; have HBD := Hd (low_bd hlow HXL.o HYL.o); have HB20 := Hd (HB7.o.trans (Bar.of hb20)); have HC20 := Hd (HC7.o.below (hb20.mono HC7.o.2.1)); clear hq hlow hb20 a0 a1 a2 b0 b1 b2
 go_wp2_with fail
 refine (l2TextS_any N z x y _ HC20.o.2.1 HQN.o HBD.o.1 HBD.o.2).mono ?_; rintro e w21 ⟨u, rfl, hu, hb21⟩; have HB21 := Hd (HB20.o.trans (Bar.of hb21)); have HC21 := Hd (HC20.o.below (hb21.mono HC20.o.2.1)); clear hb21
 go_wp2
 go_ret
 exact ⟨u, k7, rfl, by omega, by omega, HC21.o, HB21.o⟩
theorem int_bytes (s : Bool) (c : UInt8) (l : List UInt8) (hall : (c :: l).all isDig = true) (hc : c ≠ 48) (hlen : l.length + 1 ≤ 2500) : isIntB (strB ((if s then [45] else []) ++ c :: l)) = true := by
 have hc45 : c ≠ 45 := fun e => by
  rw [e] at hall; simp [isDig] at hall
 cases s
 ·have e1 : ((if false = true then [45] else []) ++ c :: l : List UInt8) = c :: l := rfl; have en : isNeg (strB (c :: l)) = false := by
   unfold isNeg; rw [strB_ext0]; simp [hc45]
  have ed : dgs (strB (c :: l)) = strB (c :: l) := by unfold dgs; rw [en]; rfl
  have hb : (strB (c :: l)).data.toList = c :: l := by simp [strB]
  have hsz : (strB (c :: l)).size = l.length + 1 := by rw [strB_size]; rfl
  rw [e1]; unfold isIntB; rw [ed, hb, hsz, hall]; simp [hlen, hc]
 have e1 : ((if true = true then [45] else []) ++ c :: l : List UInt8) = 45 :: c :: l := rfl; have en : isNeg (strB (45 :: c :: l)) = true := by
  unfold isNeg; rw [strB_ext0]; rfl
 have ed : (dgs (strB (45 :: c :: l))).data.toList = c :: l := by
  unfold dgs; rw [en]; exact strB_ext1 45 _
 have hsz : (dgs (strB (45 :: c :: l))).size = l.length + 1 := by
  have h5 : (dgs (strB (45 :: c :: l))).data.toList.length = (dgs (strB (45 :: c :: l))).size := by simp
  rw [← h5, ed]; rfl
 rw [e1]; unfold isIntB; rw [ed, hsz, hall]; simp [hlen, hc]
theorem all_dig {l : List UInt8} (h : ∀ c ∈ l, dig c) : l.all isDig = true := by
 rw [List.all_eq_true]; intro c hc; have := h c hc; unfold isDig; rw [decide_eq_true_iff]; exact this
theorem zero_int : isIntB (strB [48]) = true := by
 have en : isNeg (strB [48]) = false := by
  unfold isNeg; rw [strB_ext0]; rfl
 have ed : dgs (strB [48]) = strB [48] := by unfold dgs; rw [en]; rfl
 have hb : (strB [48]).data.toList = [48] := by simp [strB]
 have hs : (strB [48]).size = 1 := by rw [strB_size]; rfl
 unfold isIntB; rw [ed, hs, ByteArray.toList_eq, hb]; decide
theorem text_int {x : Int} {u : ByteArray} (h : IsText x u) (hu : u ≠ strB []) : isIntB u = true := by
 obtain ⟨neg, t, ok, tr, _, rfl⟩ := h; unfold textT at *
 by_cases h0 : t.length = 0
 ·rw [if_pos h0]; exact zero_int
 rw [if_neg h0] at hu ⊢; unfold textS at *
 by_cases h1 : 2500 < (textD t).length
 ·rw [if_pos h1] at hu; exact absurd rfl hu
 rw [if_neg h1]; have hl := textD_ge t ok tr (by intro e; rw [e] at h0; simp at h0); have hd := textD_dig t; have hh := textD_head t
 cases ht : textD t with
 | nil => rw [ht] at hl; simp at hl
 | cons c r =>
   rw [ht] at hd hh h1; have hc : c ≠ 48 := fun e => hh (by rw [e]; rfl); have := int_bytes (negOf neg t) c r (all_dig hd) hc (by simpa using h1)
   cases hn : negOf neg t
   ·rw [hn] at this; exact this
   ·rw [hn] at this; exact this
theorem text_num {x : Int} {u : ByteArray} (h : IsText x u) (hu : u ≠ strB []) : isIntB u = true ∧ numT u = x := by
 have hi := text_int h hu; exact ⟨hi, text_inj (text_back u hi) h hu⟩
theorem num_cons (c : UInt8) (r : List UInt8) : num (c :: r) = (c.toNat - 48) * 10 ^ r.length + num r := by
 obtain ⟨n, hn⟩ := exW r.length
 induction n generalizing r with
 | zero =>
   have : r = [] := List.eq_nil_of_length_eq_zero hn; subst this; simp [num]
 | succ n ih =>
   obtain ⟨a, b, rfl⟩ : ∃ a b, r = a ++ [b] := ⟨r.dropLast, r.getLast (by intro e; rw [e] at hn; cases hn), (List.dropLast_concat_getLast _).symm⟩; have hla : a.length = n := by simpa using hn
   have e1 : c :: (a ++ [b]) = (c :: a) ++ [b] := rfl; rw [e1, num_snoc, num_snoc, ih a hla]; simp only [List.length_append, List.length_cons, List.length_nil, Nat.zero_add, Nat.pow_succ]; rw [Nat.add_mul, Nat.mul_assoc]; omega
theorem digits_len (t : List Nat) (ok : okL t) (tr : isTrim t) (h0 : t ≠ []) (K : Nat) : K < (textD t).length ↔ 10 ^ K ≤ val t := by
 have hl := textD_ge t ok tr h0; have hd := textD_dig t; have hh := textD_head t; have hn := num_textD t ok; have hu := num_lt (textD t) hd; constructor
 ·intro h
  cases ht : textD t with
  | nil => rw [ht] at h; simp at h
  | cons c r =>
    rw [ht] at hd hh h hn; have hc : c ≠ 48 := fun e => hh (by rw [e]; rfl); have h1 := hd c (by simp); have h2 : 49 ≤ c.toNat := by
     have h3 : c.toNat ≠ 48 := fun e => hc (UInt8.toNat_inj.1 (by rw [e]; rfl)); have := h1.1; omega
    have h3 := num_cons c r; have h4 : 10 ^ K ≤ 10 ^ r.length := Nat.pow_le_pow_right (by decide) (by simpa using Nat.lt_succ_iff.1 h); have h5 : 1 * 10 ^ r.length ≤ (c.toNat - 48) * 10 ^ r.length := Nat.mul_le_mul_right _ (by omega); omega
 intro h
 rcases Nat.lt_or_ge K (textD t).length with h1 | h1
 ·exact h1
 have h2 := Nat.pow_le_pow_right (n := 10) (by decide) h1; omega
theorem text_le {x y : Int} {u v : ByteArray} (hu : IsText x u) (hv : IsText y v) (hne : v ≠ strB []) (h : x.natAbs ≤ y.natAbs) : u ≠ strB [] := by
 obtain ⟨n1, t1, o1, r1, e1, rfl⟩ := hu; obtain ⟨n2, t2, o2, r2, e2, rfl⟩ := hv; rw [← e1, ← e2, sg_abs, sg_abs] at h; unfold textT at *
 by_cases h1 : t1.length = 0
 ·rw [if_pos h1]; decide
 have z1 : t1 ≠ [] := by intro e; rw [e] at h1; simp at h1
 rw [if_neg h1]; have hv1 := val_ge t1 r1 z1; have hpos : 0 < 1000000000 ^ (t1.length - 1) := Nat.pow_pos (by decide); have h2 : t2.length ≠ 0 := by
  intro e; have : t2 = [] := List.eq_nil_of_length_eq_zero e; rw [this] at h; simp [val] at h; omega
 have z2 : t2 ≠ [] := by intro e; rw [e] at h2; simp at h2
 rw [if_neg h2] at hne; unfold textS at *
 by_cases h3 : 2500 < (textD t2).length
 ·rw [if_pos h3] at hne; exact absurd rfl hne
 have h4 : ¬ 2500 < (textD t1).length := fun h5 => h3 ((digits_len t2 o2 r2 z2 2500).2 (Nat.le_trans ((digits_len t1 o1 r1 z1 2500).1 h5) h)); rw [if_neg h4]
 split
 ·intro e; have := congrArg ByteArray.size e; rw [strB_size, strB_size] at this; simp at this
 intro e; have h6 := congrArg ByteArray.size e; rw [strB_size, strB_size] at h6; have := textD_ge t1 o1 r1 z1; simp only [List.length_nil] at h6; omega
theorem int_noslash {s : ByteArray} (h : isIntB s = true) : ∀ j : Nat, s.data.toList[j]? ≠ some 47 := by
 have hd := (isIntB_dig s h).1; have hall : ∀ c ∈ s.data.toList, c ≠ 47 := by
  intro c hc e
  cases hn : isNeg s
  ·have := pos_text s hn; rw [this] at hc; have hc' : c ∈ (dgs s).data.toList := by simpa [strB] using hc
   have := hd c hc'; rw [e] at this; exact absurd this.1 (by decide)
  have := neg_text s hn; rw [this] at hc; have hc' : c = 45 ∨ c ∈ (dgs s).data.toList := by simpa [strB] using hc
  rcases hc' with h1 | h1
  ·rw [e] at h1; exact absurd h1 (by decide)
  have := hd c h1; rw [e] at this; exact absurd this.1 (by decide)
 intro j hj; exact hall 47 (List.mem_of_getElem? hj) rfl
theorem size_ne {u : ByteArray} : u ≠ strB [] ↔ u.size ≠ 0 := by
 constructor
 ·intro h e; refine h (ByteArray.ext ?_); have : u.data.size = 0 := e; rw [Array.eq_empty_of_size_eq_zero this]; rfl
 rintro h rfl; exact h (strB_size [])
theorem ba_ext {a b : ByteArray} (h : a.data.toList = b.data.toList) : a = b := ByteArray.ext (Array.toList_inj.1 h)
theorem ext_drop (s : ByteArray) (a : Nat) : (s.extract a s.size).data.toList = s.data.toList.drop a := by
 rw [ByteArray.data_extract, Array.toList_extract]
 show (s.data.toList.drop a).take (s.size - a) = _
 exact List.take_of_length_le (by rw [List.length_drop]; exact leR)
theorem slash_list (p q : ByteArray) : (p ++ ⟨#[47]⟩ ++ q).data.toList = p.data.toList ++ 47 :: q.data.toList := by simp
theorem text_ratV {z : ByteArray} {p q : Int} (h : TextR p q z) (h0 : 0 < q) (hg : Int.gcd p q = 1) (hz : z ≠ strB []) : ∃ k, IsCut z k ∧ RatV z k p q := by
 unfold TextR at h
 by_cases h1 : q = 1
 ·rw [if_pos h1] at h; obtain ⟨i1, i2⟩ := text_num h hz; exact ⟨none, int_noslash i1, i1, i2.symm, h1⟩
 rw [if_neg h1] at h; obtain ⟨u, v, hu, hv, rfl⟩ := h
 by_cases h2 : u.size = 0 ∨ v.size = 0
 ·rw [if_pos h2] at hz; exact absurd rfl hz
 rw [if_neg h2]; have nu : u ≠ strB [] := size_ne.2 (by omega); have nv : v ≠ strB [] := size_ne.2 (by omega); obtain ⟨i1, i2⟩ := text_num hu nu; obtain ⟨j1, j2⟩ := text_num hv nv; have hsl := slash_list u v; have hlen : u.data.toList.length = u.size := by simp
 have e1 : cutP (u ++ ⟨#[47]⟩ ++ v) (some u.size) = u := ba_ext (by
  have : (cutP (u ++ ⟨#[47]⟩ ++ v) (some u.size)).data.toList = (u ++ ⟨#[47]⟩ ++ v).data.toList.take u.size := by simp [cutP]
  rw [this, hsl, List.take_append_of_le_length (by omega), List.take_of_length_le (by omega)])
 have e2 : cutQ (u ++ ⟨#[47]⟩ ++ v) (some u.size) = v := ba_ext (by
  have : (cutQ (u ++ ⟨#[47]⟩ ++ v) (some u.size)).data.toList = (u ++ ⟨#[47]⟩ ++ v).data.toList.drop (u.size + 1) := ext_drop _ _; rw [this, hsl, ← hlen, List.drop_append, List.drop_eq_nil_of_le (by omega)]; simp)
 refine ⟨some u.size, ⟨?_, ?_⟩, ?_⟩
 ·rw [hsl, List.getElem?_append_right (by omega), hlen, Nat.sub_self]; rfl
 ·intro j hj; rw [hsl, List.getElem?_append_left (by omega)]; exact int_noslash i1 j
 show (isIntB (cutP _ _) = true ∧ isIntB (cutQ _ _) = true) ∧ (numT (cutQ _ _) ≠ 0 ∧ cutP _ _ ≠ strB [48] ∧ cutQ _ _ ≠ strB [49] ∧ isNeg (cutQ _ _) = false ∧ Int.gcd (numT (cutP _ _)) (numT (cutQ _ _)) = 1) ∧ p = numT (cutP _ _) ∧ q = numT (cutQ _ _)
 rw [e1, e2]; refine ⟨⟨i1, j1⟩, ⟨by omega, ?_, ?_, numT_neg v (by omega), by rw [i2, j2]; exact hg⟩, i2.symm, j2.symm⟩
 ·rintro rfl; rw [num_nil] at i2; rw [← i2] at hg; have : q.natAbs = 1 := by simpa using hg
  omega
 rintro rfl; rw [num_one] at j2; exact h1 j2.symm
theorem max_of {u : ByteArray} {n : Nat} (h : u.size ≤ n) (hn : n ≤ 100000) : u.size ≤ maxLen := by unfold maxLen; omega
theorem resQ_size {N D : Int → Int → Int → Int → Int} {ok : Int → Prop} {s t u : ByteArray} (h : IsResQ N D ok s t u) : u.size ≤ 6000 := by
 obtain ⟨k, m, _, _, h⟩ := h
 rcases h with ⟨x1, y1, x2, y2, p, q, _, _, _, _, h⟩ | ⟨_, rfl⟩
 ·unfold TextR at h
  split at h
  ·have := text_size h; omega
  obtain ⟨p, q, h1, h2, rfl⟩ := h; have g1 := text_size h1; have g2 := text_size h2
  split
  ·exact Nat.zero_le _
  have e : (p ++ ⟨#[47]⟩ ++ q).size = p.size + 1 + q.size := by rw [ByteArray.size_append, ByteArray.size_append]; rfl
  omega
 exact Nat.zero_le _
end Go.Proofs.YtfmpapcfhoomkaaGreatDoor
