import Derived.Test.YtpjnglcojamfmaaGreatDoorSumT
import Derived.Test.YtpjnglcojamfmaaGreatDoorRatB
import Derived.Deep.QuietTactic
import Derived.BigQuiet
import Derived.Laws.Bits64b
import Derived.Test.YtpjnglcojamfmaaGreatDoorM8
import Derived.Test.YtpjnglcojamfmaaGreatDoorMulSpec
import Derived.Test.YtpjnglcojamfmaaGreatDoorK1
import Derived.Test.YtpjnglcojamfmaaGreatDoorK2
import Derived.Test.YtpjnglcojamfmaaGreatDoorQI
import Derived.Deep.RegionHeld3
import Derived.Test.YtpjnglcojamfmaaGreatDoorQQ
import Derived.Test.YtpjnglcojamfmaaGreatDoorGcdI
import Derived.Test.YtpjnglcojamfmaaGreatDoorCmpXY
import Derived.Test.YtpjnglcojamfmaaGreatDoorCmpImpl
import Derived.Test.YtpjnglcojamfmaaGreatDoorDivTop
import Derived.Test.YtpjnglcojamfmaaGreatDoorDivSpec
import Derived.Test.YtpjnglcojamfmaaGreatDoorK3
import Derived.Deep.DeepCutAuto
import Derived.Test.YtpjnglcojamfmaaGreatDoorRows
import Derived.Test.YtpjnglcojamfmaaGreatDoorCards
import Derived.Test.YtpjnglcojamfmaaGreatDoorTie
import Derived.WalkKit
import Derived.ProofKit
import Derived.OpenShut
import Derived.ShutString
import Derived.ChangeOld
import Derived.ChangeVars
import Derived.Below
import Derived.WalkSmall
import Derived.LaidMore
import Derived.Lay
import Derived.Stop.Joined
import Derived.SevenTiedAt
namespace Go.Proofs.YtpjnglcojamfmaaGreatDoor
open Go.ChangeShapes Go.WideShapes Go.ChangeAt Go.RowKit
set_option maxRecDepth 100000 in
set_option maxHeartbeats 1000000 in
theorem implSub_any (s t : ByteArray) (w : World) (hs : s.size ≤ maxLen) (ht : t.size ≤ maxLen) (h : SP w) (hLT : LT w) :
    Calls Tryz.prog 16 #[.string s, .string t] w fun e w' => ∃ u, e = .returned (.string u) ∧ IsRes (· - ·) s t u ∧ Below w.heap.size w w' := by
  have HS : Hid (SP w) := h
  have HLT : Hid (LT w) := hLT
  clear h hLT
  by_cases hb : isIntB s = true ∧ isIntB t = true
  · have HR : Hid (∀ u, IsText ((· - ·) (numT s) (numT t)) u → IsRes (· - ·) s t u) := fun u hu => by
      show IsRes (· - ·) s t u
      unfold IsRes; rw [if_pos hb]; exact hu
    have HI : Hid (isIntB s = true ∧ isIntB t = true) := hb
    have hand : Hid ((isIntB s && isIntB t) = true) := by show (isIntB s && isIntB t) = true; rw [hb.1, hb.2]; rfl
    clear hb
    go_enter Tryz.func16, Tryz.ntmps16
    go_wp2_with fail
    refine (readPair_any s t _ hs ht).mono ?_
    rintro e w1 ⟨n, a, l, c, n', a', l', c', rfl, h1, h2, hb1⟩
    obtain ⟨rfl, hL1⟩ := h1 HI.out.1
    obtain ⟨rfl, hL2⟩ := h2 HI.out.2
    rw [hand.out]
    obtain ⟨W1, hW1⟩ : ∃ W1, (w1.alloc (.cells #[.bool (sgn s), .slice a l c] 47)).alloc (.cells #[.bool (sgn t), .slice a' l' c'] 47) = W1 := ⟨_, rfl⟩
    have hbb : Below w1.heap.size w1 W1 := by rw [← hW1]; exact ((Below.refl _ w1).alloc (Nat.le_refl _) _).alloc (by simp) _
    have HW1 := hide hW1
    have HL1 : Hid (IsI w.heap.size W1 (.agg #[.bool (sgn s), .slice a l c]) (numT s) 280) := ⟨isNeg s, _, lim s, rfl, hL1.below hbb, trimL_trim _, rfl, lim_len' s HI.out.1⟩
    have HL2 : Hid (IsI w.heap.size W1 (.agg #[.bool (sgn t), .slice a' l' c']) (numT t) 280) := ⟨isNeg t, _, lim t, rfl, hL2.below hbb, trimL_trim _, rfl, lim_len' t HI.out.2⟩
    have HB1 : Hid (Below w.heap.size w W1) := hb1.trans (hbb.mono hb1.size)
    have HS1 : Hid (SP W1) := HS.out.below HB1.out
    clear h1 h2 hb1 hL1 hL2 hbb hW1
    go_wp2_with fail
    rw [HW1.out]
    refine (minus_any w.heap.size _ _ (numT s) (numT t) 280 280 _ HL1.out HL2.out (by omega) (by omega) HS1.out).mono ?_
    rintro e w2 ⟨z, rfl, hz, hb2⟩
    have HZ : Hid (IsI W1.heap.size w2 z ((· - ·) (numT s) (numT t)) (280 + 280 + 1)) := hz
    have HB2 : Hid (Below w.heap.size w w2) := HB1.out.trans (hb2.mono HB1.out.size)
    obtain ⟨sz, pz, lz, cz, hv⟩ := hz.shape
    subst hv
    clear hb2 hz
    go_wp2_with fail
    refine (textI_any _ _ _ _ _ HZ.out (by omega) (HLT.out.below HB2.out)).mono ?_
    rintro e w3 ⟨u, rfl, hu, hb3⟩
    have HU : Hid (IsRes (· - ·) s t u) := HR.out _ hu
    have HB3 : Hid (Below w.heap.size w w3) := HB2.out.trans (hb3.mono HB2.out.size)
    clear hu hb3
    go_wp2
    go_ret
    exact ⟨_, rfl, HU.out, HB3.out⟩
  · have HR : Hid (IsRes (· - ·) s t (strB [])) := by
      show IsRes (· - ·) s t (strB [])
      unfold IsRes; rw [if_neg hb]
    have hand : Hid ((isIntB s && isIntB t) = false) := by
      show (isIntB s && isIntB t) = false
      cases h1 : isIntB s
      · rfl
      · cases h2 : isIntB t
        · rfl
        · exact absurd ⟨h1, h2⟩ hb
    clear hb
    go_enter Tryz.func16, Tryz.ntmps16
    go_wp2_with fail
    refine (readPair_any s t _ hs ht).mono ?_
    rintro e w1 ⟨n, a, l, c, n', a', l', c', rfl, h1, h2, hb1⟩
    rw [hand.out]
    have HB1 : Hid (Below w.heap.size w w1) := hb1
    clear h1 h2 hb1
    go_wp2
    go_ret
    exact ⟨_, rfl, HR.out, (HB1.out.alloc HB1.out.size _).alloc (by have := HB1.out.size; simp; omega) _⟩
end Go.Proofs.YtpjnglcojamfmaaGreatDoor
namespace Go.Proofs.YtpjnglcojamfmaaGreatDoor
open Go.ChangeShapes Go.WideShapes Go.ChangeAt Go.RowKit
/-- But for block g the world is as it was. -/
structure Bar (g : Nat) (w w' : World) : Prop where
  os : w'.os = w.os
  tape : w'.tape = w.tape
  output : w'.output = w.output
  size : w.heap.size ≤ w'.heap.size
  block : ∀ k, k < w.heap.size → k ≠ g → w'.heap[k]? = w.heap[k]?
theorem Bar.refl (g : Nat) (w : World) : Bar g w w := ⟨rfl, rfl, rfl, Nat.le_refl _, fun _ _ _ => rfl⟩
theorem Bar.trans {g : Nat} {a b c : World} (h : Bar g a b) (k : Bar g b c) : Bar g a c :=
  ⟨k.os.trans h.os, k.tape.trans h.tape, k.output.trans h.output, Nat.le_trans h.size k.size, fun i hi hg => (k.block i (Nat.lt_of_lt_of_le hi h.size) hg).trans (h.block i hi hg)⟩
theorem Bar.of {g : Nat} {w w' : World} (h : Below w.heap.size w w') : Bar g w w' := ⟨h.os, h.tape, h.output, h.size, fun k hk _ => h.block k hk⟩
theorem Bar.below {g N : Nat} {w w' : World} (h : Bar g w w') (hN : N ≤ g) (hw : N ≤ w.heap.size) : Below N w w' := ⟨h.os, h.tape, h.output, h.size, fun k hk => h.block k (by omega) (by omega)⟩
theorem Bar.setCell (g i : Nat) (w : World) (v : Value) : Bar g w (w.setCell ⟨g, i, none⟩ v) :=
  ⟨rfl, rfl, rfl, by simp [World.setCell], fun k _ hk => Below.heap_setCell _ _ _ _ hk⟩
theorem Bar.drew {g : Nat} {w w' : World} (h : Bar g w w') : Bar g w w'.drew := ⟨h.os, h.tape, h.output, h.size, h.block⟩
theorem Bar.cell {g : Nat} {w w' : World} (h : Bar g w w') {p : Addr} (hp : p.block < w.heap.size) (hg : p.block ≠ g) : w'.cell? p = w.cell? p := by
  unfold World.cell?
  rw [h.block p.block hp hg]
/-- The bytes that choices are read from: they lie below N. -/
def CodeIn (g N : Nat) (w : World) (a : Option Addr) (n cap : Nat) : Prop := n ≤ cap ∧ cap ≤ maxLen ∧ ∀ i, i < n → ∃ b off v : Nat, a = some ⟨b, off, none⟩ ∧ b ≠ g ∧ b < N ∧ v < 256 ∧ w.cell? ⟨b, off + i, none⟩ = some (.int .u8 v)
theorem CodeIn.bar {g N : Nat} {w w' : World} {a : Option Addr} {n cap : Nat} (h : CodeIn g N w a n cap) (hN : N ≤ w.heap.size) (hb : Bar g w w') : CodeIn g N w' a n cap :=
  ⟨h.1, h.2.1, fun i hi => by
    obtain ⟨b, off, v, e, h1, h2, h3, h4⟩ := h.2.2 i hi
    exact ⟨b, off, v, e, h1, h2, h3, (hb.cell (p := ⟨b, off + i, none⟩) (Nat.lt_of_lt_of_le h2 hN) h1).trans h4⟩⟩
/-- A cursor over bytes; it, and they, lie below N. -/
def IsCur (g N : Nat) (w : World) (k : Nat) : Prop := g < N ∧ N ≤ w.heap.size ∧ ∃ a n cap sd, Bx w g [.slice a n cap, .int .i64 (k : Nat), .int .u64 (sd : Nat)] ∧ sd < 18446744073709551616 ∧ CodeIn g N w a n cap
theorem IsCur.below {g N k : Nat} {w w' : World} (h : IsCur g N w k) (hb : Below N w w') : IsCur g N w' k := by
  obtain ⟨h1, h2, a, n, cap, sd, hx, hs, hc⟩ := h
  refine ⟨h1, Nat.le_trans h2 hb.size, a, n, cap, sd, hx.below h1 hb, hs, hc.1, hc.2.1, fun i hi => ?_⟩
  obtain ⟨b, off, v, e, e1, e2, e3, e4⟩ := hc.2.2 i hi
  exact ⟨b, off, v, e, e1, e2, e3, (hb.cell (p := ⟨b, off + i, none⟩) e2).trans e4⟩
theorem wrap_u64_ex (x : Int) : ∃ m : Nat, IntKind.u64.wrap x = (m : Int) ∧ m < 18446744073709551616 := by
  refine ⟨(IntKind.u64.wrap x).toNat, ?_, ?_⟩ <;> simp only [IntKind.wrap_u64] <;> omega
theorem shr_and (m : Nat) (hm : m < 18446744073709551616) : ∃ r : Nat, wrap64 (bits BinOp.and IntKind.u64 ((m : Int) / 1099511627776) 255) = (r : Int) ∧ r < 256 := by
  have e1 : ((m : Int) / 1099511627776) = ((m / 1099511627776 : Nat) : Int) := by omega
  have e2 := bits_and_u64_nat (m / 1099511627776) 255 (by omega) (by decide)
  have h3 : (m / 1099511627776) &&& 255 ≤ 255 := Nat.and_le_right
  obtain ⟨x, hx⟩ : ∃ x : Nat, (m / 1099511627776) &&& 255 = x := ⟨_, rfl⟩
  rw [hx] at h3 e2
  refine ⟨x, ?_, by omega⟩
  have e4 : ((255 : Nat) : Int) = 255 := rfl
  rw [e4] at e2
  rw [e1, e2]
  unfold wrap64
  omega
theorem cur_step {g N k : Nat} {w : World} {a : Option Addr} {n cap sd : Nat} (hgN : g < N) (hN : N ≤ w.heap.size) (hx : Bx w g [.slice a n cap, .int .i64 (k : Nat), .int .u64 (sd : Nat)]) (hc : CodeIn g N w a n cap) (m1 m2 m : Nat) (hm : m < 18446744073709551616) :
    IsCur g N ((((w.drewN m1).setCell ⟨g, 1, none⟩ (.int .i64 ((k : Int) + 1))).setCell ⟨g, 2, none⟩ (.int .u64 (m : Nat))).drewN m2) (k + 1) ∧ Bar g w ((((w.drewN m1).setCell ⟨g, 1, none⟩ (.int .i64 ((k : Int) + 1))).setCell ⟨g, 2, none⟩ (.int .u64 (m : Nat))).drewN m2) := by
  have hb : Bar g w ((((w.drewN m1).setCell ⟨g, 1, none⟩ (.int .i64 ((k : Int) + 1))).setCell ⟨g, 2, none⟩ (.int .u64 (m : Nat))).drewN m2) := by
    have h0 : Bar g w (w.drewN m1) := ⟨rfl, rfl, rfl, Nat.le_refl _, fun _ _ _ => rfl⟩
    have h1 := (h0.trans (Bar.setCell g 1 _ (.int .i64 ((k : Int) + 1)))).trans (Bar.setCell g 2 _ (.int .u64 (m : Nat)))
    exact ⟨h1.os, h1.tape, h1.output, h1.size, h1.block⟩
  refine ⟨⟨hgN, Nat.le_trans hN hb.size, a, n, cap, m, ?_, hm, hc.bar hN hb⟩, hb⟩
  have h0 : Bx (w.drewN m1) g [.slice a n cap, .int .i64 (k : Nat), .int .u64 (sd : Nat)] := by obtain ⟨t, h⟩ := hx; exact ⟨t, h⟩
  have h1 := (h0.set 1 (.int .i64 ((k : Int) + 1))).set 2 (.int .u64 (m : Nat))
  obtain ⟨t, h⟩ := h1
  exact ⟨t, h⟩
set_option maxRecDepth 100000 in
set_option maxHeartbeats 1000000 in
theorem next_any (g N k : Nat) (w : World) (h : IsCur g N w k) (hk : k ≤ 1000000000000) :
    Calls Tryz.prog 120 #[.pointer (some ⟨g, 0, none⟩)] w fun e w' => ∃ r : Nat, e = .returned (.int .i64 (r : Nat)) ∧ r < 256 ∧ IsCur g N w' (k + 1) ∧ Bar g w w' := by
  obtain ⟨hgN, hNw, a, n, cap, sd, hx, hsd, hc⟩ := h
  have HGN := hidG (And.intro hgN hNw)
  clear hgN hNw
  have HX := hidG hx
  have HC := hidG hc
  have hcap := hc.2.1
  have hn := hc.1
  unfold maxLen at hcap
  have k0 := hx.cell 0
  have k1 := hx.cell 1
  have k2 := hx.cell 2
  simp only [List.getElem?_cons_zero, List.getElem?_cons_succ] at k0 k1 k2
  have f1 := hx.frozen 1
  have f2 := hx.frozen 2
  by_cases hlt : k < n
  · obtain ⟨b, off, v, ea, hbg, hbs, hv, hcell⟩ := hc.2.2 k hlt
    subst ea
    have z : decide ((k : Int) < (n : Int)) = true := by rw [decide_eq_true_iff]; omega
    have z2 : decide ((k : Int) + 1 ≤ (n : Int)) = true := by rw [decide_eq_true_iff]; omega
    clear hx hc
    go_enter Tryz.func120, Tryz.ntmps120
    go_wp2
    go_quiet (fail)
    go_wp2
    go_quiet (fail)
    go_wp2
    go_quiet (fail)
    go_wp2
    obtain ⟨m, hm, hml⟩ := wrap_u64_ex (IntKind.u64.wrap (IntKind.u64.wrap (↑sd * 6364136223846793005) + ↑v) + 1442695040888963407)
    rw [hm]
    go_ret
    obtain ⟨h1, h2⟩ := cur_step HGN.out.1 HGN.out.2 HX.out HC.out _ _ m hml
    exact ⟨v, rfl, hv, h1, h2⟩
  · have z : decide ((k : Int) < (n : Int)) = false := by rw [decide_eq_false_iff_not]; omega
    have z2 : decide ((k : Int) + 1 ≤ (n : Int)) = false := by rw [decide_eq_false_iff_not]; omega
    clear hx hc
    go_enter Tryz.func120, Tryz.ntmps120
    go_wp2
    go_quiet (fail)
    go_wp2
    go_quiet (fail)
    go_wp2
    obtain ⟨m, hm, hml⟩ := wrap_u64_ex (IntKind.u64.wrap (IntKind.u64.wrap (↑sd * 6364136223846793005)) + 1442695040888963407)
    obtain ⟨r, hr, hrl⟩ := shr_and m hml
    rw [hm, hr]
    go_ret
    obtain ⟨h1, h2⟩ := cur_step HGN.out.1 HGN.out.2 HX.out HC.out _ _ m hml
    exact ⟨r, rfl, hrl, h1, h2⟩
set_option maxRecDepth 100000 in
set_option maxHeartbeats 1000000 in
theorem pick_any (g N k n : Nat) (w : World) (h : IsCur g N w k) (hk : k ≤ 100000000000) (hn : 0 < n) (hn2 : n ≤ 65536) :
    Calls Tryz.prog 67 #[.pointer (some ⟨g, 0, none⟩), .int .i64 (n : Nat)] w fun e w' => ∃ r k' : Nat, e = .returned (.int .i64 (r : Nat)) ∧ r < n ∧ k' ≤ k + 2 ∧ IsCur g N w' k' ∧ Bar g w w' := by
  have HC := hidG h
  clear h
  by_cases h1 : n ≤ 1
  · have z : decide ((n : Int) ≤ 1) = true := by rw [decide_eq_true_iff]; omega
    go_enter Tryz.func67, Tryz.ntmps67
    go_wp2
    go_ret
    exact ⟨0, k, rfl, hn, by omega, HC.out, Bar.refl _ _⟩
  · have z : decide ((n : Int) ≤ 1) = false := by rw [decide_eq_false_iff_not]; omega
    by_cases h2 : 200 < n
    · have z2 : decide (200 < (n : Int)) = true := by rw [decide_eq_true_iff]; omega
      go_enter Tryz.func67, Tryz.ntmps67
      go_wp2_with fail
      refine (next_any g N k _ HC.out (by omega)).mono ?_
      rintro e w1 ⟨r1, rfl, hr1, hc1, hb1⟩
      have HC1 := hidG hc1
      have HB1 := hidG hb1
      clear hc1 hb1
      go_wp2_with fail
      refine (next_any g N (k + 1) _ HC1.out (by omega)).mono ?_
      rintro e w2 ⟨r2, rfl, hr2, hc2, hb2⟩
      have HC2 := hidG hc2
      have HB2 := hidG (HB1.out.trans hb2)
      clear hc2 hb2
      go_wp2
      go_ret
      exact ⟨(r1 * 256 + r2) % n, k + 1 + 1, ret_int (by push_cast; rfl), Nat.mod_lt _ hn, by omega, HC2.out, HB2.out⟩
    · have z2 : decide (200 < (n : Int)) = false := by rw [decide_eq_false_iff_not]; omega
      go_enter Tryz.func67, Tryz.ntmps67
      go_wp2_with fail
      refine (next_any g N k _ HC.out (by omega)).mono ?_
      rintro e w1 ⟨r1, rfl, hr1, hc1, hb1⟩
      have HC1 := hidG hc1
      have HB1 := hidG hb1
      clear hc1 hb1
      go_wp2
      go_ret
      exact ⟨r1 % n, k + 1, ret_int (by push_cast; rfl), Nat.mod_lt _ hn, by omega, HC1.out, HB1.out⟩
end Go.Proofs.YtpjnglcojamfmaaGreatDoor
namespace Go.Proofs.YtpjnglcojamfmaaGreatDoor
open Go.ChangeShapes Go.WideShapes Go.ChangeAt Go.RowKit
theorem Bar.grownBy {g : Nat} {w w' : World} (h : Bar g w w') : w.grownBy w' (some g) := ⟨h.os, h.tape, h.output, h.size, fun k hk hne => h.block k hk (fun e => hne (by rw [e]))⟩
/-- What a law on appends leaves: from the start's size on it may be what it will. -/
theorem Bar.then {g : Nat} {w a b : World} (h : Bar g w a) (k : Below w.heap.size a b) : Bar g w b :=
  ⟨k.os.trans h.os, k.tape.trans h.tape, k.output.trans h.output, Nat.le_trans h.size k.size, fun i hi hg => (k.block i hi).trans (h.block i hi hg)⟩
def DigL (ds : List Nat) : Prop := ∀ x ∈ ds, 48 ≤ x ∧ x ≤ 57
theorem DigL.snoc {ds : List Nat} (h : DigL ds) (x : Nat) (h1 : 48 ≤ x) (h2 : x ≤ 57) : DigL (ds ++ [x]) := fun y hy => by
  rcases List.mem_append.1 hy with h3 | h3
  · exact h y h3
  · simp at h3; omega
def drawn (s : Bool) (ds : List Nat) : List Nat := (if s then [45] else []) ++ ds
theorem drawn_len (s : Bool) (ds : List Nat) : (drawn s ds).length = (if s then 1 else 0) + ds.length := by
  unfold drawn
  cases s <;> simp
  omega
theorem drawn_snoc (s : Bool) (ds : List Nat) (x : Nat) : drawn s (ds ++ [x]) = drawn s ds ++ [x] := by unfold drawn; rw [List.append_assoc]
theorem headD_snoc (ds : List Nat) (x : Nat) (h : 49 ≤ ds.headD 0) : 49 ≤ (ds ++ [x]).headD 0 := by
  cases ds with
  | nil => simp at h
  | cons a l => simpa using h
theorem drawn_lt {s : Bool} {ds : List Nat} (h : DigL ds) : ∀ x ∈ drawn s ds, x < 256 := fun x hx => by
  unfold drawn at hx
  rcases List.mem_append.1 hx with h1 | h1
  · cases s <;> simp at h1; omega
  · have := h x h1; omega
/-- The loop of digits: j digits stand. -/
def DigInv (g N k n : Nat) (s : Bool) (w : World) (v i : Value) (W : World) : Prop := ∃ (j k' : Nat) (ds : List Nat), 1 ≤ j ∧ j ≤ n ∧ i = .int .i64 (j : Nat) ∧ ds.length = j ∧ DigL ds ∧ 49 ≤ ds.headD 0 ∧ k' ≤ k + 4 + 2 * (j - 1) ∧
  v = .slice (some ⟨w.heap.size, 0, none⟩) (drawn s ds).length (n + 1) ∧ W.ownsRow w.heap.size 5 1 (.slice (some ⟨w.heap.size, 0, none⟩) (drawn s ds).length (n + 1)) (drawn s ds).length (U8s (drawn s ds)) ∧ IsCur g N W k' ∧ Bar g w W
set_option maxRecDepth 100000 in
set_option maxHeartbeats 4000000 in
theorem digits_any (g N k n : Nat) (w : World) (h : IsCur g N w k) (hk : k ≤ 1000000000) (hn : 1 ≤ n) (hn2 : n ≤ 3000) :
    Calls Tryz.prog 132 #[.pointer (some ⟨g, 0, none⟩), .int .i64 (n : Nat)] w fun e w' => ∃ (s : Bool) (ds : List Nat) (k' : Nat), e = .returned (.string (strB (bytesOf (drawn s ds)))) ∧ ds.length = n ∧ DigL ds ∧ 49 ≤ ds.headD 0 ∧ k' ≤ k + 2 * n + 10 ∧ IsCur g N w' k' ∧ Bar g w w' := by
  obtain ⟨i0, hinf, hz0, hz1, hz2⟩ := info_parts Tryz.info_u8
  have HC := hidG h
  have hgN := h.1
  have hNw := h.2.1
  clear h
  go_enter Tryz.func132, Tryz.ntmps132
  go_wp2_with (at_make; refine wpList_make_own _ rfl _ _ 22 rfl w.heap.size 5 i0 (.int .u8 0) 1 Tryz.underlying22 hinf hz0 hz1 .i64 .i64 _ (n + 1) rfl rfl ?m1 ?m2 ?m3 ?m4 ?_)
  case m1 => omega
  case m2 => rw [hz2]; omega
  case m3 => unfold maxLen; omega
  case m4 => exact Nat.le_refl _
  intro w2 hown2 hgr2
  have hB2 : Below w.heap.size w w2 := (Below.refl _ _).grown hgr2 (Nat.le_refl _) (fun k h => by cases h)
  have HOWN2 := hidG hown2
  have HC2 := hidG (HC.out.below (hB2.mono hNw))
  have HB2 : Hid (Bar g w w2) := Bar.of hB2
  clear hgr2 hown2 hB2
  go_wp2_with fail
  refine (pick_any g N k 3 _ HC2.out (by omega) (by decide) (by decide)).mono ?_
  rintro e w3 ⟨r3, k3, rfl, hr3, hk3, hc3, hb3⟩
  have HC3 := hidG hc3
  have HB3 := hidG (HB2.out.trans hb3)
  have HOWN3 := hidG (HOWN2.out.kept hb3.grownBy (.inr (by simp [Value.ownBlock]; omega)))
  clear hc3 hb3
  by_cases h0 : r3 = 0
  · have z0 : ((r3 : Int) == 0) = true := by rw [beq_iff_eq]; omega
    have hown3 := HOWN3.out
    go_wp2_with (at_builtin; refine wpList_append_fits _ rfl _ _ 22 rfl w.heap.size 5 i0 1 Tryz.underlying22 hinf hz1 w.heap.size (0) (n + 1) _ rfl (hown3.alloc _) ⟨w3.heap.size, 0, none⟩ 1 1 [_] rfl rfl (cell_one_new _ _ _) ?c1 ?c2 ?_)
    case c1 => first | rfl | (intro u hu; simp at hu; subst hu; rfl)
    case c2 => omega
    intro w4 hown4 hgr4
    have hB4 : Below w.heap.size w3 w4 := ((Below.refl _ w3).alloc HB3.out.size _).grown hgr4 (by have := HB3.out.size; simp; omega) (fun k e => by cases e; exact Nat.le_refl _)
    have HOWN4 := hidG hown4
    have HC4 := hidG (HC3.out.below (hB4.mono hNw))
    have HB4 := hidG (HB3.out.then hB4)
    clear hown3 hown4 hgr4 hB4
    go_wp2_with fail
    refine (pick_any g N k3 9 _ HC4.out (by omega) (by decide) (by decide)).mono ?_
    rintro e w5 ⟨r5, k5, rfl, hr5, hk5, hc5, hb5⟩
    have HC5 := hidG hc5
    have HB5 := hidG (HB4.out.trans hb5)
    have HOWN5 := hidG (HOWN4.out.kept hb5.grownBy (.inr (by simp [Value.ownBlock]; omega)))
    clear hc5 hb5
    have hown5 := HOWN5.out
    go_wp2_with (at_builtin; refine wpList_append_fits _ rfl _ _ 22 rfl w.heap.size 5 i0 1 Tryz.underlying22 hinf hz1 w.heap.size (1) (n + 1) _ rfl (hown5.alloc _) ⟨w5.heap.size, 0, none⟩ 1 1 [_] rfl rfl (cell_one_new _ _ _) ?c1 ?c2 ?_)
    case c1 => first | rfl | (intro u hu; simp at hu; subst hu; rfl)
    case c2 => omega
    intro w6 hown6 hgr6
    have hB6 : Below w.heap.size w5 w6 := ((Below.refl _ w5).alloc HB5.out.size _).grown hgr6 (by have := HB5.out.size; simp; omega) (fun k e => by cases e; exact Nat.le_refl _)
    have HINV : Hid (DigInv g N k n true w (.slice (some ⟨w.heap.size, 0, none⟩) (1 + 1) (n + 1)) (.int .i64 1) w6) := by
      refine ⟨1, k5, [49 + r5], Nat.le_refl _, hn, rfl, rfl, ?_, ?_, by omega, rfl, ?_, HC5.out.below (hB6.mono hNw), HB5.out.then hB6⟩
      · intro x hx; simp at hx; omega
      · simp
      · simpa [U8s, drawn] using hown6
    clear hown5 hown6 hgr6 hB6
    go_wp2_with fail
    go_loopw [5, 6] (DigInv g N k n true w) (fun _ i _ => n - (intOf i).toNat)
    case atStart => exact HINV.out
    case round =>
      clear HINV
      obtain ⟨j, kj, ds, hj1, hj, rfl, hlen, hdl, hhd, hkj, rfl, hown, hcur, hbar⟩ := hrel
      obtain ⟨m, hm⟩ : ∃ m, (drawn true ds).length = m := ⟨_, rfl⟩
      have HM := hidG hm
      have hmj : m = 1 + j := by rw [← hm, drawn_len, hlen]; rfl
      have HMJ := hidG hmj
      rw [hm] at hown ⊢
      clear hm hmj
      have HDL := hidG hdl
      have HHD := hidG hhd
      have HLEN := hidG hlen
      have HBAR := hidG hbar
      have HCUR := hidG hcur
      have HOWN := hidG hown
      by_cases hlt : j < n
      · have zj : decide ((j : Int) < (n : Int)) = true := by rw [decide_eq_true_iff]; omega
        have hmn : m + 1 ≤ n + 1 := by have := HMJ.out; omega
        clear hdl hhd hlen hbar hcur hown
        go_wp2_with fail
        refine (pick_any g N kj 14 _ HCUR.out (by omega) (by decide) (by decide)).mono ?_
        rintro e w7 ⟨r7, k7, rfl, hr7, hk7, hc7, hb7⟩
        have HC7 := hidG hc7
        have HB7 := hidG (HBAR.out.trans hb7)
        have hown7 := HOWN.out.kept hb7.grownBy (.inr (by simp [Value.ownBlock]; omega))
        clear hc7 hb7
        by_cases h9 : 9 < r7
        · have z9 : decide (9 < (r7 : Int)) = true := by rw [decide_eq_true_iff]; omega
          go_wp2_with (at_builtin; refine wpList_append_fits _ rfl _ _ 22 rfl w.heap.size 5 i0 1 Tryz.underlying22 hinf hz1 w.heap.size (m) (n + 1) _ rfl (hown7.alloc _) ⟨w7.heap.size, 0, none⟩ 1 1 [_] rfl rfl (cell_one_new _ _ _) ?c1 ?c2 ?_)
          case c1 => first | rfl | (intro u hu; simp at hu; subst hu; rfl)
          case c2 => omega
          intro w8 hown8 hgr8
          have hB8 : Below w.heap.size w7 w8 := ((Below.refl _ w7).alloc HB7.out.size _).grown hgr8 (by have := HB7.out.size; simp; omega) (fun k e => by cases e; exact Nat.le_refl _)
          have HREL : Hid (DigInv g N k n true w (.slice (some ⟨w.heap.size, 0, none⟩) (m + 1) (n + 1)) (.int .i64 ((j : Int) + 1)) w8) := by
            have e1 : (drawn true (ds ++ [48 + 9 * (r7 % 2)])).length = m + 1 := by rw [drawn_snoc, List.length_append, HM.out]; rfl
            refine ⟨j + 1, k7, ds ++ [48 + 9 * (r7 % 2)], by omega, by omega, rfl, ?_, HDL.out.snoc _ (by omega) (by omega), headD_snoc _ _ HHD.out, by omega, by rw [e1], ?_, HC7.out.below (hB8.mono hNw), HB7.out.then hB8⟩
            · rw [List.length_append, HLEN.out]; rfl
            · rw [e1, drawn_snoc, U8s_snoc]
              simpa using hown8
          clear hown7 hown8 hgr8 hB8
          go_wp2
          go_roundw
          case rel => exact HREL.out
          case measure => simp [intOf]; omega
        · have z9 : decide (9 < (r7 : Int)) = false := by rw [decide_eq_false_iff_not]; omega
          go_wp2_with (at_builtin; refine wpList_append_fits _ rfl _ _ 22 rfl w.heap.size 5 i0 1 Tryz.underlying22 hinf hz1 w.heap.size (m) (n + 1) _ rfl (hown7.alloc _) ⟨w7.heap.size, 0, none⟩ 1 1 [_] rfl rfl (cell_one_new _ _ _) ?c1 ?c2 ?_)
          case c1 => first | rfl | (intro u hu; simp at hu; subst hu; rfl)
          case c2 => omega
          intro w8 hown8 hgr8
          have hB8 : Below w.heap.size w7 w8 := ((Below.refl _ w7).alloc HB7.out.size _).grown hgr8 (by have := HB7.out.size; simp; omega) (fun k e => by cases e; exact Nat.le_refl _)
          have HREL : Hid (DigInv g N k n true w (.slice (some ⟨w.heap.size, 0, none⟩) (m + 1) (n + 1)) (.int .i64 ((j : Int) + 1)) w8) := by
            have e1 : (drawn true (ds ++ [48 + r7])).length = m + 1 := by rw [drawn_snoc, List.length_append, HM.out]; rfl
            refine ⟨j + 1, k7, ds ++ [48 + r7], by omega, by omega, rfl, ?_, HDL.out.snoc _ (by omega) (by omega), headD_snoc _ _ HHD.out, by omega, by rw [e1], ?_, HC7.out.below (hB8.mono hNw), HB7.out.then hB8⟩
            · rw [List.length_append, HLEN.out]; rfl
            · rw [e1, drawn_snoc, U8s_snoc]
              simpa using hown8
          clear hown7 hown8 hgr8 hB8
          go_wp2
          go_roundw
          case rel => exact HREL.out
          case measure => simp [intOf]; omega
      · have zj : decide ((j : Int) < (n : Int)) = false := by rw [decide_eq_false_iff_not]; omega
        have hconv := conv_bytes _ _ _ _ _ _ hown (drawn_lt hdl) HM.out
        clear hdl hhd hlen hbar hcur hown
        go_wp2
        go_ret
        exact ⟨true, ds, kj, rfl, by have := HLEN.out; omega, HDL.out, HHD.out, by omega, HCUR.out, HBAR.out⟩
  · have z0 : ((r3 : Int) == 0) = false := by rw [beq_eq_false_iff_ne]; omega
    go_wp2_with fail
    refine (pick_any g N k3 9 _ HC3.out (by omega) (by decide) (by decide)).mono ?_
    rintro e w5 ⟨r5, k5, rfl, hr5, hk5, hc5, hb5⟩
    have HC5 := hidG hc5
    have HB5 := hidG (HB3.out.trans hb5)
    have HOWN5 := hidG (HOWN3.out.kept hb5.grownBy (.inr (by simp [Value.ownBlock]; omega)))
    clear hc5 hb5
    have hown5 := HOWN5.out
    go_wp2_with (at_builtin; refine wpList_append_fits _ rfl _ _ 22 rfl w.heap.size 5 i0 1 Tryz.underlying22 hinf hz1 w.heap.size (0) (n + 1) _ rfl (hown5.alloc _) ⟨w5.heap.size, 0, none⟩ 1 1 [_] rfl rfl (cell_one_new _ _ _) ?c1 ?c2 ?_)
    case c1 => first | rfl | (intro u hu; simp at hu; subst hu; rfl)
    case c2 => omega
    intro w6 hown6 hgr6
    have hB6 : Below w.heap.size w5 w6 := ((Below.refl _ w5).alloc HB5.out.size _).grown hgr6 (by have := HB5.out.size; simp; omega) (fun k e => by cases e; exact Nat.le_refl _)
    have HINV : Hid (DigInv g N k n false w (.slice (some ⟨w.heap.size, 0, none⟩) (0 + 1) (n + 1)) (.int .i64 1) w6) := by
      refine ⟨1, k5, [49 + r5], Nat.le_refl _, hn, rfl, rfl, ?_, ?_, by omega, rfl, ?_, HC5.out.below (hB6.mono hNw), HB5.out.then hB6⟩
      · intro x hx; simp at hx; omega
      · simp
      · simpa [U8s, drawn] using hown6
    clear hown5 hown6 hgr6 hB6
    go_wp2_with fail
    go_loopw [5, 6] (DigInv g N k n false w) (fun _ i _ => n - (intOf i).toNat)
    case atStart => exact HINV.out
    case round =>
      clear HINV
      obtain ⟨j, kj, ds, hj1, hj, rfl, hlen, hdl, hhd, hkj, rfl, hown, hcur, hbar⟩ := hrel
      obtain ⟨m, hm⟩ : ∃ m, (drawn false ds).length = m := ⟨_, rfl⟩
      have HM := hidG hm
      have hmj : m = 0 + j := by rw [← hm, drawn_len, hlen]; rfl
      have HMJ := hidG hmj
      rw [hm] at hown ⊢
      clear hm hmj
      have HDL := hidG hdl
      have HHD := hidG hhd
      have HLEN := hidG hlen
      have HBAR := hidG hbar
      have HCUR := hidG hcur
      have HOWN := hidG hown
      by_cases hlt : j < n
      · have zj : decide ((j : Int) < (n : Int)) = true := by rw [decide_eq_true_iff]; omega
        have hmn : m + 1 ≤ n + 1 := by have := HMJ.out; omega
        clear hdl hhd hlen hbar hcur hown
        go_wp2_with fail
        refine (pick_any g N kj 14 _ HCUR.out (by omega) (by decide) (by decide)).mono ?_
        rintro e w7 ⟨r7, k7, rfl, hr7, hk7, hc7, hb7⟩
        have HC7 := hidG hc7
        have HB7 := hidG (HBAR.out.trans hb7)
        have hown7 := HOWN.out.kept hb7.grownBy (.inr (by simp [Value.ownBlock]; omega))
        clear hc7 hb7
        by_cases h9 : 9 < r7
        · have z9 : decide (9 < (r7 : Int)) = true := by rw [decide_eq_true_iff]; omega
          go_wp2_with (at_builtin; refine wpList_append_fits _ rfl _ _ 22 rfl w.heap.size 5 i0 1 Tryz.underlying22 hinf hz1 w.heap.size (m) (n + 1) _ rfl (hown7.alloc _) ⟨w7.heap.size, 0, none⟩ 1 1 [_] rfl rfl (cell_one_new _ _ _) ?c1 ?c2 ?_)
          case c1 => first | rfl | (intro u hu; simp at hu; subst hu; rfl)
          case c2 => omega
          intro w8 hown8 hgr8
          have hB8 : Below w.heap.size w7 w8 := ((Below.refl _ w7).alloc HB7.out.size _).grown hgr8 (by have := HB7.out.size; simp; omega) (fun k e => by cases e; exact Nat.le_refl _)
          have HREL : Hid (DigInv g N k n false w (.slice (some ⟨w.heap.size, 0, none⟩) (m + 1) (n + 1)) (.int .i64 ((j : Int) + 1)) w8) := by
            have e1 : (drawn false (ds ++ [48 + 9 * (r7 % 2)])).length = m + 1 := by rw [drawn_snoc, List.length_append, HM.out]; rfl
            refine ⟨j + 1, k7, ds ++ [48 + 9 * (r7 % 2)], by omega, by omega, rfl, ?_, HDL.out.snoc _ (by omega) (by omega), headD_snoc _ _ HHD.out, by omega, by rw [e1], ?_, HC7.out.below (hB8.mono hNw), HB7.out.then hB8⟩
            · rw [List.length_append, HLEN.out]; rfl
            · rw [e1, drawn_snoc, U8s_snoc]
              simpa using hown8
          clear hown7 hown8 hgr8 hB8
          go_wp2
          go_roundw
          case rel => exact HREL.out
          case measure => simp [intOf]; omega
        · have z9 : decide (9 < (r7 : Int)) = false := by rw [decide_eq_false_iff_not]; omega
          go_wp2_with (at_builtin; refine wpList_append_fits _ rfl _ _ 22 rfl w.heap.size 5 i0 1 Tryz.underlying22 hinf hz1 w.heap.size (m) (n + 1) _ rfl (hown7.alloc _) ⟨w7.heap.size, 0, none⟩ 1 1 [_] rfl rfl (cell_one_new _ _ _) ?c1 ?c2 ?_)
          case c1 => first | rfl | (intro u hu; simp at hu; subst hu; rfl)
          case c2 => omega
          intro w8 hown8 hgr8
          have hB8 : Below w.heap.size w7 w8 := ((Below.refl _ w7).alloc HB7.out.size _).grown hgr8 (by have := HB7.out.size; simp; omega) (fun k e => by cases e; exact Nat.le_refl _)
          have HREL : Hid (DigInv g N k n false w (.slice (some ⟨w.heap.size, 0, none⟩) (m + 1) (n + 1)) (.int .i64 ((j : Int) + 1)) w8) := by
            have e1 : (drawn false (ds ++ [48 + r7])).length = m + 1 := by rw [drawn_snoc, List.length_append, HM.out]; rfl
            refine ⟨j + 1, k7, ds ++ [48 + r7], by omega, by omega, rfl, ?_, HDL.out.snoc _ (by omega) (by omega), headD_snoc _ _ HHD.out, by omega, by rw [e1], ?_, HC7.out.below (hB8.mono hNw), HB7.out.then hB8⟩
            · rw [List.length_append, HLEN.out]; rfl
            · rw [e1, drawn_snoc, U8s_snoc]
              simpa using hown8
          clear hown7 hown8 hgr8 hB8
          go_wp2
          go_roundw
          case rel => exact HREL.out
          case measure => simp [intOf]; omega
      · have zj : decide ((j : Int) < (n : Int)) = false := by rw [decide_eq_false_iff_not]; omega
        have hconv := conv_bytes _ _ _ _ _ _ hown (drawn_lt hdl) HM.out
        clear hdl hhd hlen hbar hcur hown
        go_wp2
        go_ret
        exact ⟨false, ds, kj, rfl, by have := HLEN.out; omega, HDL.out, HHD.out, by omega, HCUR.out, HBAR.out⟩
end Go.Proofs.YtpjnglcojamfmaaGreatDoor
namespace Go.Proofs.YtpjnglcojamfmaaGreatDoor
open Go.ChangeShapes Go.WideShapes Go.ChangeAt Go.RowKit
theorem drawn_size (s : Bool) (ds : List Nat) (n : Nat) (h : ds.length = n) : (strB (bytesOf (drawn s ds))).size ≤ n + 1 := by
  rw [strB_size, bytesOf, List.length_map, drawn_len, h]
  cases s <;> simp; omega
theorem Bx.bar {W W' : World} {b g : Nat} {l : List Value} (h : Bx W b l) (hb : Bar g W W') (hg : b ≠ g) : Bx W' b l := by
  obtain ⟨t, h⟩ := h
  exact ⟨t, (hb.block b (Array.getElem?_eq_some_iff.1 h).1 hg).trans h⟩
theorem digS_any (g N k n : Nat) (x : Int) (w : World) (h : IsCur g N w k) (hx : x = (n : Nat)) (hk : k ≤ 1000000000) (hn : 1 ≤ n) (hn2 : n ≤ 3000) :
    Calls Tryz.prog 132 #[.pointer (some ⟨g, 0, none⟩), .int .i64 x] w fun e w' => ∃ (u : ByteArray) (k' : Nat), e = .returned (.string u) ∧ u.size ≤ 6000 ∧ k' ≤ k + 6010 ∧ IsCur g N w' k' ∧ Bar g w w' := by
  subst hx
  refine (digits_any g N k n w h hk hn hn2).mono ?_
  rintro e w' ⟨s, ds, k', rfl, h1, _, _, h4, h5, h6⟩
  exact ⟨_, k', rfl, by have := drawn_size s ds n h1; omega, by omega, h5, h6⟩
theorem full_sz (ng : Bool) (t : List Nat) (h : t.length ≤ 600) : (fullT ng t).size ≤ 6000 := by
  have h1 := textD_len t
  unfold fullT
  split
  · rw [strB_size]; decide
  · split
    · rw [strB_size, List.length_cons]; omega
    · rw [strB_size]; omega
set_option maxRecDepth 100000 in
set_option maxHeartbeats 4000000 in
theorem number_any (g N k : Nat) (w : World) (h : IsCur g N w k) (hk : k ≤ 100000000) :
    Calls Tryz.prog 86 #[.pointer (some ⟨g, 0, none⟩)] w fun e w' => ∃ (u : ByteArray) (k' : Nat), e = .returned (.string u) ∧ u.size ≤ 6000 ∧ k' ≤ k + 8000 ∧ IsCur g N w' k' ∧ Bar g w w' := by
  have HC := hidG h
  have hNw := h.2.1
  clear h
  go_enter Tryz.func86, Tryz.ntmps86
  go_wp2_with fail
  refine (pick_any g N k 12 _ HC.out (by omega) (by decide) (by decide)).mono ?_
  rintro e w1 ⟨r, k1, rfl, hr, hk1, hc1, hb1⟩
  have HC1 := hidG hc1
  have HB1 := hidG hb1
  clear hc1 hb1
  have hcases : r = 0 ∨ r = 1 ∨ r = 2 ∨ r = 3 ∨ r = 4 ∨ r = 5 ∨ r = 6 ∨ r = 7 ∨ r = 8 ∨ r = 9 ∨ r = 10 ∨ r = 11 := by omega
  rcases hcases with rfl | rfl | rfl | rfl | rfl | rfl | rfl | rfl | rfl | rfl | rfl | rfl
  · go_wp2_with fail
    refine (pick_any g N k1 24 _ HC1.out (by omega) (by decide) (by decide)).mono ?_
    rintro e w2 ⟨r2, k2, rfl, hr2, hk2, hc2, hb2⟩
    have HC2 := hidG hc2
    have HB2 := hidG (HB1.out.trans hb2)
    clear hc2 hb2
    go_wp2_with fail
    refine (l1Small_any _ _ (by omega) (by omega)).mono ?_
    rintro e w3 ⟨z, rfl, ⟨ng, t, hz, _, hl⟩, hb3⟩
    have HZ := hidG hz
    have HB3 := hidG (HB2.out.trans (Bar.of hb3))
    have HC3 := hidG (HC2.out.below (hb3.mono HC2.out.2.1))
    have HLE : Hid (w2.heap.size ≤ w3.heap.size) := hb3.size
    clear hz hb3
    go_wp2_with fail
    refine (l1Text_any _ _ ng t _ HZ.out HLE.out (by omega)).mono ?_
    rintro e w4 ⟨rfl, hb4⟩
    have HB4 := hidG (HB3.out.trans (Bar.of hb4))
    have HC4 := hidG (HC3.out.below (hb4.mono HC3.out.2.1))
    have HSZ := hidG (full_sz (negOf ng t) t (by omega))
    clear hb4
    go_wp2
    go_ret
    exact ⟨_, k2, rfl, HSZ.out, by omega, HC4.out, HB4.out⟩
  · go_wp2_with fail
    refine (pick_any g N k1 24 _ HC1.out (by omega) (by decide) (by decide)).mono ?_
    rintro e w2 ⟨r2, k2, rfl, hr2, hk2, hc2, hb2⟩
    have HC2 := hidG hc2
    have HB2 := hidG (HB1.out.trans hb2)
    clear hc2 hb2
    go_wp2_with fail
    refine (l1Small_any _ _ (by omega) (by omega)).mono ?_
    rintro e w3 ⟨z, rfl, ⟨ng, t, hz, _, hl⟩, hb3⟩
    have HZ := hidG hz
    have HB3 := hidG (HB2.out.trans (Bar.of hb3))
    have HC3 := hidG (HC2.out.below (hb3.mono HC2.out.2.1))
    have HLE : Hid (w2.heap.size ≤ w3.heap.size) := hb3.size
    clear hz hb3
    go_wp2_with fail
    refine (l1Text_any _ _ ng t _ HZ.out HLE.out (by omega)).mono ?_
    rintro e w4 ⟨rfl, hb4⟩
    have HB4 := hidG (HB3.out.trans (Bar.of hb4))
    have HC4 := hidG (HC3.out.below (hb4.mono HC3.out.2.1))
    have HSZ := hidG (full_sz (negOf ng t) t (by omega))
    clear hb4
    go_wp2
    go_ret
    exact ⟨_, k2, rfl, HSZ.out, by omega, HC4.out, HB4.out⟩
  · go_wp2_with fail
    refine (pick_any g N k1 24 _ HC1.out (by omega) (by decide) (by decide)).mono ?_
    rintro e w2 ⟨r2, k2, rfl, hr2, hk2, hc2, hb2⟩
    have HC2 := hidG hc2
    have HB2 := hidG (HB1.out.trans hb2)
    clear hc2 hb2
    go_wp2_with fail
    refine (l1Small_any _ _ (by omega) (by omega)).mono ?_
    rintro e w3 ⟨z, rfl, ⟨ng, t, hz, _, hl⟩, hb3⟩
    have HZ := hidG hz
    have HB3 := hidG (HB2.out.trans (Bar.of hb3))
    have HC3 := hidG (HC2.out.below (hb3.mono HC2.out.2.1))
    have HLE : Hid (w2.heap.size ≤ w3.heap.size) := hb3.size
    clear hz hb3
    go_wp2_with fail
    refine (l1Text_any _ _ ng t _ HZ.out HLE.out (by omega)).mono ?_
    rintro e w4 ⟨rfl, hb4⟩
    have HB4 := hidG (HB3.out.trans (Bar.of hb4))
    have HC4 := hidG (HC3.out.below (hb4.mono HC3.out.2.1))
    have HSZ := hidG (full_sz (negOf ng t) t (by omega))
    clear hb4
    go_wp2
    go_ret
    exact ⟨_, k2, rfl, HSZ.out, by omega, HC4.out, HB4.out⟩
  · go_wp2_with fail
    refine (pick_any g N k1 4 _ HC1.out (by omega) (by decide) (by decide)).mono ?_
    rintro e w2 ⟨r2, k2, rfl, hr2, hk2, hc2, hb2⟩
    have HC2 := hidG hc2
    have HB2 := hidG (HB1.out.trans hb2)
    clear hc2 hb2
    go_wp2_with fail
    refine (digS_any g N k2 (8 + r2) _ _ HC2.out (by push_cast; rfl) (by omega) (by omega) (by omega)).mono ?_
    rintro e w9 ⟨u, k9, rfl, hu, hk9, hc9, hb9⟩
    have HC9 := hidG hc9
    have HB9 := hidG (HB2.out.trans hb9)
    clear hc9 hb9
    go_wp2
    go_ret
    exact ⟨u, k9, rfl, hu, by omega, HC9.out, HB9.out⟩
  · go_wp2_with fail
    refine (pick_any g N k1 4 _ HC1.out (by omega) (by decide) (by decide)).mono ?_
    rintro e w2 ⟨r2, k2, rfl, hr2, hk2, hc2, hb2⟩
    have HC2 := hidG hc2
    have HB2 := hidG (HB1.out.trans hb2)
    clear hc2 hb2
    go_wp2_with fail
    refine (digS_any g N k2 (17 + r2) _ _ HC2.out (by push_cast; rfl) (by omega) (by omega) (by omega)).mono ?_
    rintro e w9 ⟨u, k9, rfl, hu, hk9, hc9, hb9⟩
    have HC9 := hidG hc9
    have HB9 := hidG (HB2.out.trans hb9)
    clear hc9 hb9
    go_wp2
    go_ret
    exact ⟨u, k9, rfl, hu, by omega, HC9.out, HB9.out⟩
  · go_wp2_with fail
    refine (pick_any g N k1 60 _ HC1.out (by omega) (by decide) (by decide)).mono ?_
    rintro e w2 ⟨r2, k2, rfl, hr2, hk2, hc2, hb2⟩
    have HC2 := hidG hc2
    have HB2 := hidG (HB1.out.trans hb2)
    clear hc2 hb2
    go_wp2_with fail
    refine (digS_any g N k2 (20 + r2) _ _ HC2.out (by push_cast; rfl) (by omega) (by omega) (by omega)).mono ?_
    rintro e w9 ⟨u, k9, rfl, hu, hk9, hc9, hb9⟩
    have HC9 := hidG hc9
    have HB9 := hidG (HB2.out.trans hb9)
    clear hc9 hb9
    go_wp2
    go_ret
    exact ⟨u, k9, rfl, hu, by omega, HC9.out, HB9.out⟩
  · obtain ⟨W1, hW1⟩ : ∃ W1, w1.alloc (.cells #[.string ⟨#[]⟩, .string ⟨#[45]⟩, .string ⟨#[45, 48]⟩, .string ⟨#[48, 48]⟩, .string ⟨#[55, 97]⟩, .string ⟨#[43, 49]⟩, .string ⟨#[49, 50, 45]⟩, .string ⟨#[48, 120, 49]⟩, .string ⟨#[32, 49]⟩, .string ⟨#[45, 48, 49]⟩] 9) = W1 := ⟨_, rfl⟩
    have HW1 := hidG hW1
    have hbl : Below w1.heap.size w1 W1 := by rw [← hW1]; exact below_alloc _ _
    have HX : Hid (Bx W1 w1.heap.size [.string ⟨#[]⟩, .string ⟨#[45]⟩, .string ⟨#[45, 48]⟩, .string ⟨#[48, 48]⟩, .string ⟨#[55, 97]⟩, .string ⟨#[43, 49]⟩, .string ⟨#[49, 50, 45]⟩, .string ⟨#[48, 120, 49]⟩, .string ⟨#[32, 49]⟩, .string ⟨#[45, 48, 49]⟩]) := by show Bx _ _ _; rw [← hW1]; exact bx_new w1 _ _
    have HCa := hidG (HC1.out.below (hbl.mono HC1.out.2.1))
    have HBa := hidG (HB1.out.trans (Bar.of hbl))
    have HNE : Hid (w1.heap.size ≠ g) := by have h1 := HC1.out.1; have h2 := HC1.out.2.1; show w1.heap.size ≠ g; omega
    clear hW1 hbl
    go_wp2_with fail
    rw [HW1.out]
    refine (pick_any g N k1 10 _ HCa.out (by omega) (by decide) (by decide)).mono ?_
    rintro e w2 ⟨r2, k2, rfl, hr2, hk2, hc2, hb2⟩
    have HC2 := hidG hc2
    have HB2 := hidG (HBa.out.trans hb2)
    have hx2 := HX.out.bar hb2 HNE.out
    have hu : ∃ u : ByteArray, ([.string ⟨#[]⟩, .string ⟨#[45]⟩, .string ⟨#[45, 48]⟩, .string ⟨#[48, 48]⟩, .string ⟨#[55, 97]⟩, .string ⟨#[43, 49]⟩, .string ⟨#[49, 50, 45]⟩, .string ⟨#[48, 120, 49]⟩, .string ⟨#[32, 49]⟩, .string ⟨#[45, 48, 49]⟩] : List Value)[r2]? = some (.string u) ∧ u.size ≤ 10 := by
      have : r2 = 0 ∨ r2 = 1 ∨ r2 = 2 ∨ r2 = 3 ∨ r2 = 4 ∨ r2 = 5 ∨ r2 = 6 ∨ r2 = 7 ∨ r2 = 8 ∨ r2 = 9 := by omega
      rcases this with rfl | rfl | rfl | rfl | rfl | rfl | rfl | rfl | rfl | rfl <;> exact ⟨_, rfl, by decide⟩
    obtain ⟨u, hu, hus⟩ := hu
    have c := (hx2.cell r2).trans hu
    clear hc2 hb2 hx2 hu
    go_wp2
    go_ret
    exact ⟨u, k2, rfl, by omega, by omega, HC2.out, HB2.out⟩
  · go_wp2_with fail
    refine (pick_any g N k1 64 _ HC1.out (by omega) (by decide) (by decide)).mono ?_
    rintro e w2 ⟨r2, k2, rfl, hr2, hk2, hc2, hb2⟩
    have HC2 := hidG hc2
    have HB2 := hidG (HB1.out.trans hb2)
    clear hc2 hb2
    go_wp2_with fail
    refine (pick_any g N k2 2 _ HC2.out (by omega) (by decide) (by decide)).mono ?_
    rintro e w3 ⟨r3, k3, rfl, hr3, hk3, hc3, hb3⟩
    have HC3 := hidG hc3
    have HB3 := hidG (HB2.out.trans hb3)
    clear hc3 hb3
    obtain ⟨m, hm, hml⟩ := wrap_u64_ex (IntKind.u64.wrap (2 ^ r2) - ↑r3)
    have HM := hidG hm
    clear hm
    go_wp2_with fail
    rw [HM.out]
    refine (specOf_any m _ hml).mono ?_
    rintro e w4 ⟨t, ⟨_, _, _, hl⟩, rfl, hb4⟩
    have HB4 := hidG (HB3.out.trans (Bar.of hb4))
    have HC4 := hidG (HC3.out.below (hb4.mono HC3.out.2.1))
    have HSZ := hidG (full_sz false t (by omega))
    clear hb4
    go_wp2
    go_ret
    exact ⟨_, k3, rfl, HSZ.out, by omega, HC4.out, HB4.out⟩
  · go_wp2_with fail
    refine (pick_any g N k1 6 _ HC1.out (by omega) (by decide) (by decide)).mono ?_
    rintro e w2 ⟨r2, k2, rfl, hr2, hk2, hc2, hb2⟩
    have HC2 := hidG hc2
    have HB2 := hidG (HB1.out.trans hb2)
    clear hc2 hb2
    by_cases h0 : r2 = 0
    · have z0 : ((r2 : Int) == 0) = true := by rw [beq_iff_eq]; omega
      go_wp2_with fail
      refine (pick_any g N k2 3 _ HC2.out (by omega) (by decide) (by decide)).mono ?_
      rintro e w3 ⟨r3, k3, rfl, hr3, hk3, hc3, hb3⟩
      have HC3 := hidG hc3
      have HB3 := hidG (HB2.out.trans hb3)
      clear hc3 hb3
      go_wp2_with fail
      refine (digS_any g N k3 (2499 + r3) _ _ HC3.out (by push_cast; rfl) (by omega) (by omega) (by omega)).mono ?_
      rintro e w9 ⟨u, k9, rfl, hu, hk9, hc9, hb9⟩
      have HC9 := hidG hc9
      have HB9 := hidG (HB3.out.trans hb9)
      clear hc9 hb9
      go_wp2
      go_ret
      exact ⟨u, k9, rfl, hu, by omega, HC9.out, HB9.out⟩
    · have z0 : ((r2 : Int) == 0) = false := by rw [beq_eq_false_iff_ne]; omega
      go_wp2_with fail
      refine (pick_any g N k2 4 _ HC2.out (by omega) (by decide) (by decide)).mono ?_
      rintro e w3 ⟨r3, k3, rfl, hr3, hk3, hc3, hb3⟩
      have HC3 := hidG hc3
      have HB3 := hidG (HB2.out.trans hb3)
      clear hc3 hb3
      go_wp2_with fail
      refine (digS_any g N k3 (9 * (1 + r3)) _ _ HC3.out (by push_cast; rfl) (by omega) (by omega) (by omega)).mono ?_
      rintro e w9 ⟨u, k9, rfl, hu, hk9, hc9, hb9⟩
      have HC9 := hidG hc9
      have HB9 := hidG (HB3.out.trans hb9)
      clear hc9 hb9
      go_wp2
      go_ret
      exact ⟨u, k9, rfl, hu, by omega, HC9.out, HB9.out⟩
  · go_wp2_with fail
    refine (pick_any g N k1 12 _ HC1.out (by omega) (by decide) (by decide)).mono ?_
    rintro e w2 ⟨r2, k2, rfl, hr2, hk2, hc2, hb2⟩
    have HC2 := hidG hc2
    have HB2 := hidG (HB1.out.trans hb2)
    clear hc2 hb2
    go_wp2_with fail
    refine (digS_any g N k2 (1 + r2) _ _ HC2.out (by push_cast; rfl) (by omega) (by omega) (by omega)).mono ?_
    rintro e w9 ⟨u, k9, rfl, hu, hk9, hc9, hb9⟩
    have HC9 := hidG hc9
    have HB9 := hidG (HB2.out.trans hb9)
    clear hc9 hb9
    go_wp2
    go_ret
    exact ⟨u, k9, rfl, hu, by omega, HC9.out, HB9.out⟩
  · go_wp2_with fail
    refine (pick_any g N k1 12 _ HC1.out (by omega) (by decide) (by decide)).mono ?_
    rintro e w2 ⟨r2, k2, rfl, hr2, hk2, hc2, hb2⟩
    have HC2 := hidG hc2
    have HB2 := hidG (HB1.out.trans hb2)
    clear hc2 hb2
    go_wp2_with fail
    refine (digS_any g N k2 (1 + r2) _ _ HC2.out (by push_cast; rfl) (by omega) (by omega) (by omega)).mono ?_
    rintro e w9 ⟨u, k9, rfl, hu, hk9, hc9, hb9⟩
    have HC9 := hidG hc9
    have HB9 := hidG (HB2.out.trans hb9)
    clear hc9 hb9
    go_wp2
    go_ret
    exact ⟨u, k9, rfl, hu, by omega, HC9.out, HB9.out⟩
  · go_wp2_with fail
    refine (pick_any g N k1 12 _ HC1.out (by omega) (by decide) (by decide)).mono ?_
    rintro e w2 ⟨r2, k2, rfl, hr2, hk2, hc2, hb2⟩
    have HC2 := hidG hc2
    have HB2 := hidG (HB1.out.trans hb2)
    clear hc2 hb2
    go_wp2_with fail
    refine (digS_any g N k2 (1 + r2) _ _ HC2.out (by push_cast; rfl) (by omega) (by omega) (by omega)).mono ?_
    rintro e w9 ⟨u, k9, rfl, hu, hk9, hc9, hb9⟩
    have HC9 := hidG hc9
    have HB9 := hidG (HB2.out.trans hb9)
    clear hc9 hb9
    go_wp2
    go_ret
    exact ⟨u, k9, rfl, hu, by omega, HC9.out, HB9.out⟩
end Go.Proofs.YtpjnglcojamfmaaGreatDoor
namespace Go.Proofs.YtpjnglcojamfmaaGreatDoor
open Go.ChangeShapes Go.WideShapes Go.ChangeAt Go.RowKit
/-- Bytes that came in. -/
def CodeArg (w : World) (a : Option Addr) (n cap : Nat) : Prop := n ≤ cap ∧ cap ≤ maxLen ∧ ∀ i, i < n → ∃ b off v : Nat, a = some ⟨b, off, none⟩ ∧ b < w.heap.size ∧ v < 256 ∧ w.cell? ⟨b, off + i, none⟩ = some (.int .u8 v)
theorem CodeArg.below {w w' : World} {a : Option Addr} {n cap : Nat} (h : CodeArg w a n cap) (hb : Below w.heap.size w w') : CodeArg w' a n cap :=
  ⟨h.1, h.2.1, fun i hi => by
    obtain ⟨b, off, v, e, h1, h2, h3⟩ := h.2.2 i hi
    exact ⟨b, off, v, e, Nat.lt_of_lt_of_le h1 hb.size, h2, (hb.cell (p := ⟨b, off + i, none⟩) h1).trans h3⟩⟩
theorem cur_new {w : World} {a : Option Addr} {n cap : Nat} (h : CodeArg w a n cap) (ty : TypeId) : IsCur w.heap.size (w.heap.size + 1) (w.alloc (.cells #[.slice a n cap, .int .i64 0, .int .u64 0] ty)) 0 := by
  refine ⟨Nat.lt_succ_self _, by rw [World.size_alloc]; exact Nat.le_refl _, a, n, cap, 0, bx_new w _ ty, by decide, h.1, h.2.1, fun i hi => ?_⟩
  obtain ⟨b, off, v, e, h1, h2, h3⟩ := h.2.2 i hi
  exact ⟨b, off, v, e, by omega, by omega, h2, ((below_alloc w _).cell (p := ⟨b, off + i, none⟩) h1).trans h3⟩
theorem cur_end {w W w' : World} (h : Below w.heap.size w W) (hb : Bar w.heap.size W w') : Below w.heap.size w w' := h.trans (hb.below (Nat.le_refl _) h.size)
theorem res_size {f : Int → Int → Int} {s t u : ByteArray} (h : IsRes f s t u) : u.size ≤ 6000 := by
  unfold IsRes at h
  split at h
  · have := text_size h; omega
  · rw [h, strB_size]; exact Nat.zero_le _
set_option maxRecDepth 100000 in
set_option maxHeartbeats 4000000 in
theorem l1Pair_any (a : Option Addr) (n cap : Nat) (w : World) (h : CodeArg w a n cap) :
    Calls Tryz.prog 41 #[.slice a n cap] w fun e w' => ∃ u v : ByteArray, e = .returned (.tuple #[.string u, .string v]) ∧ u.size ≤ 6000 ∧ v.size ≤ 6000 ∧ Below w.heap.size w w' := by
  obtain ⟨W0, hW0⟩ : ∃ W0, w.alloc (.cells #[.slice a n cap, .int .i64 0, .int .u64 0] 77) = W0 := ⟨_, rfl⟩
  have HW0 := hidG hW0
  have HC0 : Hid (IsCur w.heap.size (w.heap.size + 1) W0 0) := by show IsCur _ _ _ _; rw [← hW0]; exact cur_new h _
  have HB0 : Hid (Below w.heap.size w W0) := by show Below _ _ _; rw [← hW0]; exact below_alloc _ _
  clear h hW0
  go_enter Tryz.func41, Tryz.ntmps41
  go_wp2_with fail
  rw [HW0.out]
  refine (number_any _ _ 0 W0 HC0.out (by decide)).mono ?_
  rintro e w1 ⟨u, k1, rfl, hu, hk1, hc1, hb1⟩
  have HC1 := hidG hc1
  have HB1 := hidG hb1
  clear hc1 hb1
  go_wp2_with fail
  refine (number_any _ _ k1 w1 HC1.out (by omega)).mono ?_
  rintro e w2 ⟨v, k2, rfl, hv, hk2, hc2, hb2⟩
  have HC2 := hidG hc2
  have HB2 := hidG (HB1.out.trans hb2)
  clear hc2 hb2
  go_wp2_with fail
  refine (pick_any _ _ k2 5 w2 HC2.out (by omega) (by decide) (by decide)).mono ?_
  rintro e w3 ⟨r, k3, rfl, hr, hk3, hc3, hb3⟩
  have HEND := hidG (cur_end HB0.out (HB2.out.trans hb3))
  clear hc3 hb3
  have hul : u.size ≤ maxLen := by unfold maxLen; omega
  have hvl : v.size ≤ maxLen := by unfold maxLen; omega
  have hcases : r = 0 ∨ r = 1 ∨ r = 2 ∨ r = 3 ∨ r = 4 := by omega
  rcases hcases with rfl | rfl | rfl | rfl | rfl
  · cases hi : isIntB u
    · have HI := hidG hi
      clear hi
      go_wp2_with fail
      refine (isInt_spec u _ hul).mono ?_
      rintro e w' ⟨rfl, hw'⟩
      subst w'
      rw [HI.out]
      go_wp2
      go_ret2
      exact ⟨u, v, rfl, hu, hv, HEND.out⟩
    · have HI := hidG hi
      cases hj : isIntB v
      · have HJ := hidG hj
        clear hi hj
        go_wp2_with fail
        refine (isInt_spec u _ hul).mono ?_
        rintro e w' ⟨rfl, hw'⟩
        subst w'
        rw [HI.out]
        go_wp2_with fail
        refine (isInt_spec v _ hvl).mono ?_
        rintro e w' ⟨rfl, hw'⟩
        subst w'
        rw [HJ.out]
        go_wp2
        go_ret2
        exact ⟨u, v, rfl, hu, hv, HEND.out⟩
      · have HJ := hidG hj
        clear hi hj
        go_wp2_with fail
        refine (isInt_spec u _ hul).mono ?_
        rintro e w' ⟨rfl, hw'⟩
        subst w'
        rw [HI.out]
        go_wp2_with fail
        refine (isInt_spec v _ hvl).mono ?_
        rintro e w' ⟨rfl, hw'⟩
        subst w'
        rw [HJ.out]
        go_wp2_with fail
        refine (specMul_any u v _ hul hvl).mono ?_
        rintro e w4 ⟨x, rfl, hx, hb4⟩
        have HXS := hidG (res_size hx)
        have HB4 := hidG (HEND.out.trans (hb4.mono HEND.out.size))
        clear hx hb4
        go_wp2
        go_ret2
        exact ⟨x, v, rfl, HXS.out, hv, HB4.out⟩
  · go_wp2
    go_ret2
    exact ⟨u, u, rfl, hu, hu, HEND.out⟩
  · go_wp2
    go_ret2
    exact ⟨u, v, rfl, hu, hv, HEND.out⟩
  · go_wp2
    go_ret2
    exact ⟨u, v, rfl, hu, hv, HEND.out⟩
  · go_wp2
    go_ret2
    exact ⟨u, v, rfl, hu, hv, HEND.out⟩
set_option maxRecDepth 100000 in
set_option maxHeartbeats 1000000 in
theorem drawAdd_any (a : Option Addr) (n cap : Nat) (w : World) (h : CodeArg w a n cap) :
    Calls Tryz.prog 11 #[.slice a n cap] w fun e w' => ∃ u v : ByteArray, e = .returned (.tuple #[.string u, .string v]) ∧ u.size ≤ 6000 ∧ v.size ≤ 6000 ∧ Below w.heap.size w w' := by
  have H := hidG h
  clear h
  go_enter Tryz.func11, Tryz.ntmps11
  go_wp2_with fail
  refine (l1Pair_any a n cap _ H.out).mono ?_
  rintro e w1 ⟨u, v, rfl, hu, hv, hb⟩
  have HB := hidG hb
  clear hb
  go_wp2
  go_ret2
  exact ⟨u, v, rfl, hu, hv, HB.out⟩
end Go.Proofs.YtpjnglcojamfmaaGreatDoor
namespace Go.Proofs.YtpjnglcojamfmaaGreatDoor
open Go.ChangeShapes Go.WideShapes Go.ChangeAt Go.RowKit
theorem strB_ext0 (c : UInt8) (l : List UInt8) : ((strB (c :: l)).extract 0 1).toList = [c] := by
  rw [ByteArray.toList_eq]
  simp [strB]
theorem strB_ext1 (c : UInt8) (l : List UInt8) : ((strB (c :: l)).extract 1 (strB (c :: l)).size).data.toList = l := by
  rw [strB_size]
  simp [strB]
theorem digL_bytes {ds : List Nat} (h : DigL ds) : (bytesOf ds).all isDig = true := by
  rw [List.all_eq_true]
  intro c hc
  unfold bytesOf at hc
  rw [List.mem_map] at hc
  obtain ⟨x, hx, rfl⟩ := hc
  have := h x hx
  unfold isDig
  rw [decide_eq_true_iff, UInt8.toNat_ofNat_of_lt' (by simp [UInt8.size]; omega)]
  exact this
theorem drawn_int (s : Bool) (ds : List Nat) (h : DigL ds) (hh : 49 ≤ ds.headD 0) (h2 : ds.length ≤ 2500) : isIntB (strB (bytesOf (drawn s ds))) = true ∧ ((strB (bytesOf (drawn s ds))).toList == [48]) = false := by
  cases ds with
  | nil => simp at hh
  | cons d l =>
    have hd := h d (by simp)
    have hd49 : 49 ≤ d := by simpa using hh
    have hall := digL_bytes h
    have hne : UInt8.ofNat d ≠ 48 := fun e => by
      have := congrArg UInt8.toNat e
      rw [UInt8.toNat_ofNat_of_lt' (by simp [UInt8.size]; omega)] at this
      have e48 : (48 : UInt8).toNat = 48 := rfl
      omega
    have hne45 : UInt8.ofNat d ≠ 45 := fun e => by
      have := congrArg UInt8.toNat e
      rw [UInt8.toNat_ofNat_of_lt' (by simp [UInt8.size]; omega)] at this
      have e45 : (45 : UInt8).toNat = 45 := rfl
      omega
    cases s
    · have e1 : bytesOf (drawn false (d :: l)) = UInt8.ofNat d :: bytesOf l := by simp [drawn, bytesOf]
      have en : isNeg (strB (UInt8.ofNat d :: bytesOf l)) = false := by
        unfold isNeg
        rw [strB_ext0]
        simp [hne45]
      have ed : dgs (strB (UInt8.ofNat d :: bytesOf l)) = strB (UInt8.ofNat d :: bytesOf l) := by unfold dgs; rw [en]; rfl
      have hb : (strB (UInt8.ofNat d :: bytesOf l)).data.toList = UInt8.ofNat d :: bytesOf l := by simp [strB]
      have hsz : (strB (UInt8.ofNat d :: bytesOf l)).size = l.length + 1 := by rw [strB_size]; simp [bytesOf]
      rw [e1]
      refine ⟨?_, ?_⟩
      · unfold isIntB
        rw [ed, hb, hsz]
        have h3 : (UInt8.ofNat d :: bytesOf l).all isDig = true := by simpa [bytesOf] using hall
        rw [h3]
        have : l.length + 1 ≤ 2500 := by simpa using h2
        simp [this, hne]
      · rw [ByteArray.toList_eq, hb]
        simp [hne]
    · have e1 : bytesOf (drawn true (d :: l)) = 45 :: UInt8.ofNat d :: bytesOf l := by simp [drawn, bytesOf]
      have en : isNeg (strB (45 :: UInt8.ofNat d :: bytesOf l)) = true := by
        unfold isNeg
        rw [strB_ext0]
        rfl
      have ed : (dgs (strB (45 :: UInt8.ofNat d :: bytesOf l))).data.toList = UInt8.ofNat d :: bytesOf l := by
        unfold dgs
        rw [en]
        exact strB_ext1 45 _
      have hsz : (dgs (strB (45 :: UInt8.ofNat d :: bytesOf l))).size = l.length + 1 := by
        have h5 : (dgs (strB (45 :: UInt8.ofNat d :: bytesOf l))).data.toList.length = (dgs (strB (45 :: UInt8.ofNat d :: bytesOf l))).size := by simp
        rw [← h5, ed]
        simp [bytesOf]
      have hb : (strB (45 :: UInt8.ofNat d :: bytesOf l)).data.toList = 45 :: UInt8.ofNat d :: bytesOf l := by simp [strB]
      rw [e1]
      refine ⟨?_, ?_⟩
      · unfold isIntB
        rw [ed, hsz]
        have h3 : (UInt8.ofNat d :: bytesOf l).all isDig = true := by simpa [bytesOf] using hall
        rw [h3]
        have : l.length + 1 ≤ 2500 := by simpa using h2
        simp [this, hne]
      · rw [ByteArray.toList_eq, hb]
        simp
theorem IsL.bar {B g : Nat} {w w' : World} {v : Value} {l : List Nat} (h : IsL B w v l) (hb : Bar g w w') (hg : g < B) : IsL B w' v l := by
  obtain ⟨a, cap, rfl, hl, hcap, hok, hr⟩ := h
  refine ⟨a, cap, rfl, hl, hcap, hok, ?_⟩
  rcases hr with rfl | ⟨b, off, rfl, hB, hlt, hc⟩
  · exact .inl rfl
  · refine .inr ⟨b, off, rfl, hB, Nat.lt_of_lt_of_le hlt hb.size, fun i hi => ?_⟩
    rw [hb.cell (p := ⟨b, off + i, none⟩) hlt (by show b ≠ g; omega)]
    exact hc i hi
theorem NumZ.bar {B g : Nat} {w w' : World} {z : Value} {x : Int} {n : Nat} (h : NumZ B w z x n) (hb : Bar g w w') (hg : g < B) : NumZ B w' z x n := by
  obtain ⟨neg, t, ⟨h1, h2, h3⟩, e, hl⟩ := h
  refine ⟨neg, t, ⟨h1, h2, ?_⟩, e, hl⟩
  rcases h3 with ⟨h3, v, rfl, hv⟩ | h3
  · exact .inl ⟨h3, v, rfl, hv.bar hb hg⟩
  · exact .inr h3
theorem digX_any (g N k n : Nat) (x : Int) (w : World) (h : IsCur g N w k) (hx : x = (n : Nat)) (hk : k ≤ 1000000000) (hn : 1 ≤ n) (hn2 : n ≤ 2500) :
    Calls Tryz.prog 132 #[.pointer (some ⟨g, 0, none⟩), .int .i64 x] w fun e w' => ∃ (u : ByteArray) (k' : Nat), e = .returned (.string u) ∧ isIntB u = true ∧ numT u ≠ 0 ∧ k' ≤ k + 6010 ∧ IsCur g N w' k' ∧ Bar g w w' := by
  subst hx
  refine (digits_any g N k n w h hk hn (by omega)).mono ?_
  rintro e w' ⟨s, ds, k', rfl, h1, h2, h3, h4, h5, h6⟩
  obtain ⟨i1, i2⟩ := drawn_int s ds h2 h3 (by omega)
  exact ⟨_, k', rfl, i1, zero_text _ i1 i2, by omega, h5, h6⟩
theorem low_bd {x y a b : Int} {k : Nat} (h : IsLow x y a b) (hx : x.natAbs < lb k) (hy : y.natAbs < lb k) : a.natAbs < lb k ∧ b.natAbs < lb k := by
  obtain ⟨c, c0, e1, e2, _⟩ := h
  have h1 := abs_le_mul a c c0
  have h2 := abs_le_mul b c c0
  rw [← e1] at h1
  rw [← e2] at h2
  exact ⟨Nat.lt_of_le_of_lt h1 hx, Nat.lt_of_le_of_lt h2 hy⟩
theorem l2TextS_any (B : Nat) (z : Value) (x y : Int) (w : World) (hBw : B ≤ w.heap.size) (h : IsQN B w z x y) (hx : x.natAbs < lb 600) (hy : y.natAbs < lb 600) :
    Calls Tryz.prog 68 #[z] w fun e w' => ∃ u : ByteArray, e = .returned (.string u) ∧ u.size ≤ 12001 ∧ Below w.heap.size w w' := by
  have h' := h
  obtain ⟨p0, pn, pa, pl, pc, q0, qn, qa, ql, qc, rfl, ⟨n1, t1, hz1, e1, _⟩, n2, t2, hz2, e2, _⟩ := h
  have l1 : t1.length ≤ 600 := len_lt t1 hz1.2.1 600 (by rw [← e1, sg_abs] at hx; exact hx)
  have l2 : t2.length ≤ 600 := len_lt t2 hz2.2.1 600 (by rw [← e2, sg_abs] at hy; exact hy)
  refine (l2Text_any B p0 pn pa pl pc q0 qn qa ql qc n1 n2 t1 t2 x y w hBw h' hz1 hz2 l1 l2).mono ?_
  rintro e w' ⟨rfl, hb⟩
  refine ⟨_, rfl, ?_, hb⟩
  have s1 := full_sz (negOf n1 t1) t1 l1
  have s2 := full_sz (negOf n2 t2) t2 l2
  have e47 : (⟨#[47]⟩ : ByteArray).size = 1 := rfl
  split
  · omega
  · rw [ByteArray.size_append, ByteArray.size_append]; omega
set_option maxRecDepth 100000 in
set_option maxHeartbeats 4000000 in
theorem rat_any (g N k : Nat) (w : World) (h : IsCur g N w k) (hk : k ≤ 10000000) :
    Calls Tryz.prog 111 #[.pointer (some ⟨g, 0, none⟩)] w fun e w' => ∃ (u : ByteArray) (k' : Nat), e = .returned (.string u) ∧ u.size ≤ 14000 ∧ k' ≤ k + 10000 ∧ IsCur g N w' k' ∧ Bar g w w' := by
  have HC := hidG h
  have hgN := h.1
  have hNw := h.2.1
  clear h
  go_enter Tryz.func111, Tryz.ntmps111
  go_wp2_with fail
  refine (pick_any g N k 3 _ HC.out (by omega) (by decide) (by decide)).mono ?_
  rintro e w1 ⟨r1, k1, rfl, hr1, hk1, hc1, hb1⟩
  have HC1 := hidG hc1
  have HB1 := hidG hb1
  clear hc1 hb1
  by_cases h0 : r1 = 0
  · have z0 : ((r1 : Int) == 0) = true := by rw [beq_iff_eq]; omega
    go_wp2_with fail
    refine (number_any g N k1 _ HC1.out (by omega)).mono ?_
    rintro e w2 ⟨u, k2, rfl, hu, hk2, hc2, hb2⟩
    have HC2 := hidG hc2
    have HB2 := hidG (HB1.out.trans hb2)
    clear hc2 hb2
    go_wp2
    go_ret
    exact ⟨u, k2, rfl, by omega, by omega, HC2.out, HB2.out⟩
  · have z0 : ((r1 : Int) == 0) = false := by rw [beq_eq_false_iff_ne]; omega
    go_wp2_with fail
    refine (pick_any g N k1 41 _ HC1.out (by omega) (by decide) (by decide)).mono ?_
    rintro e w2 ⟨r2, k2, rfl, hr2, hk2, hc2, hb2⟩
    have HC2 := hidG hc2
    have HB2 := hidG (HB1.out.trans hb2)
    clear hc2 hb2 z0 h0
    go_wp2_with fail
    refine (l1Small_any _ _ (by omega) (by omega)).mono ?_
    rintro e w3 ⟨zp, rfl, hzp, hb3⟩
    obtain ⟨p0, pn, pa, pl, pc, rfl⟩ := hzp.isN.shape
    obtain ⟨W3, hW3⟩ : ∃ W3, w3.alloc (.cells #[.int .i64 p0, .bool pn, .slice pa pl pc] 55) = W3 := ⟨_, rfl⟩
    have HW3 := hidG hW3
    have hB3 : Below w3.heap.size w3 W3 := by rw [← hW3]; exact below_alloc _ _
    have hB23 : Below w2.heap.size w2 W3 := hb3.trans (hB3.mono hb3.size)
    have HXP : Hid (Bx W3 w3.heap.size [.int .i64 p0, .bool pn, .slice pa pl pc]) := by show Bx _ _ _; rw [← hW3]; exact bx_new w3 _ _
    have HP := hidG ((hzp.below hB3).mono (B' := N) HC2.out.2.1)
    have HC3 := hidG (HC2.out.below (hB23.mono HC2.out.2.1))
    have HB3 := hidG (HB2.out.trans (Bar.of hB23))
    have HGP : Hid (g ≠ w3.heap.size ∧ w.heap.size ≤ w3.heap.size) := by have h1 := HC2.out.1; have h2 := HC2.out.2.1; have h3 := hb3.size; have h4 := HB2.out.size; exact ⟨by omega, by omega⟩
    clear hzp hb3 hW3 hB3 hB23
    obtain ⟨bp, hbp⟩ : ∃ bp, w3.heap.size = bp := ⟨_, rfl⟩
    rw [hbp] at HXP HGP
    have HBP := hidG hbp
    clear hbp
    go_upto_region 4 with fail
    rw [HW3.out, HBP.out]
    go_wp2_with fail
    refine (pick_any g N k2 12 _ HC3.out (by omega) (by decide) (by decide)).mono ?_
    rintro e w4 ⟨r4, k4, rfl, hr4, hk4, hc4, hb4⟩
    have HC4 := hidG hc4
    have HB4 := hidG (HB3.out.trans hb4)
    have HXP4 := hidG (HXP.out.bar hb4 (fun e => HGP.out.1 e.symm))
    have HP4 := hidG (HP.out.bar hb4 hgN)
    clear hc4 hb4
    go_wp2_with fail
    refine (l1Small_any _ _ (by omega) (by omega)).mono ?_
    rintro e w5 ⟨zq, rfl, hzq, hb5⟩
    obtain ⟨q0, qn, qa, ql, qc, rfl⟩ := hzq.isN.shape
    obtain ⟨W5, hW5⟩ : ∃ W5, w5.alloc (.cells #[.int .i64 q0, .bool qn, .slice qa ql qc] 55) = W5 := ⟨_, rfl⟩
    have HW5 := hidG hW5
    have hB5 : Below w5.heap.size w5 W5 := by rw [← hW5]; exact below_alloc _ _
    have hB45 : Below w4.heap.size w4 W5 := hb5.trans (hB5.mono hb5.size)
    have HXQ : Hid (Bx W5 w5.heap.size [.int .i64 q0, .bool qn, .slice qa ql qc]) := by show Bx _ _ _; rw [← hW5]; exact bx_new w5 _ _
    have HXP5 := hidG (HXP4.out.below HXP4.out.lt hB45)
    have HQ5 := hidG ((hzq.below hB5).mono (B' := N) HC4.out.2.1)
    have HP5 := hidG (HP4.out.below hB45)
    have HC5 := hidG (HC4.out.below (hB45.mono HC4.out.2.1))
    have HB5 := hidG (HB4.out.trans (Bar.of hB45))
    have HGQ : Hid (g ≠ w5.heap.size ∧ w.heap.size ≤ w5.heap.size ∧ bp ≠ w5.heap.size) := by have h1 := HC4.out.1; have h2 := HC4.out.2.1; have h3 := hb5.size; have h4 := HB4.out.size; have h5 := HXP4.out.lt; exact ⟨by omega, by omega, by omega⟩
    have HXL : Hid (((r2 : Int) - 20).natAbs < lb 600) := lb_le 1 600 (by decide) (by unfold lb; omega)
    obtain ⟨bq, hbq⟩ : ∃ bq, w5.heap.size = bq := ⟨_, rfl⟩
    rw [hbq] at HXQ HGQ
    have HBQ := hidG hbq
    clear hzq hb5 hW5 hB5 hB45 hbq
    go_upto_region 5 with fail
    rw [HW5.out, HBQ.out]
    go_wp2_with fail
    refine (pick_any g N k4 8 _ HC5.out (by omega) (by decide) (by decide)).mono ?_
    rintro e w6 ⟨r6, k6, rfl, hr6, hk6, hc6, hb6⟩
    have HC6 := hidG hc6
    have HB6 := hidG (HB5.out.trans hb6)
    have HXP6 := hidG (HXP5.out.bar hb6 (fun e => HGP.out.1 e.symm))
    have HXQ6 := hidG (HXQ.out.bar hb6 (fun e => HGQ.out.1 e.symm))
    have HP6 := hidG (HP5.out.bar hb6 hgN)
    have HQ6 := hidG (HQ5.out.bar hb6 hgN)
    clear hc6 hb6
    by_cases h6 : r6 = 0
    · have z6 : ((r6 : Int) == 0) = true := by rw [beq_iff_eq]; omega
      clear h6
      obtain ⟨np, tp, hzp, _, hlp⟩ := HP6.out
      obtain ⟨nq, tq, hzq, _, hlq⟩ := HQ6.out
      have T1 : Hid (∀ W, Below w6.heap.size w6 W → Calls Tryz.prog 96 #[.agg #[.int .i64 p0, .bool pn, .slice pa pl pc]] W (fun e w' => e = .returned (.string (fullT (negOf np tp) tp)) ∧ Below W.heap.size W w')) := fun W hW => l1Text_any N _ np tp W (hzp.below hW) (Nat.le_trans HC6.out.2.1 hW.size) (by omega)
      have T2 : Hid (∀ W, Below w6.heap.size w6 W → Calls Tryz.prog 96 #[.agg #[.int .i64 q0, .bool qn, .slice qa ql qc]] W (fun e w' => e = .returned (.string (fullT (negOf nq tq) tq)) ∧ Below W.heap.size W w')) := fun W hW => l1Text_any N _ nq tq W (hzq.below hW) (Nat.le_trans HC6.out.2.1 hW.size) (by omega)
      have hs1 := full_sz (negOf np tp) tp (by omega)
      have hs2 := full_sz (negOf nq tq) tq (by omega)
      obtain ⟨f1, hf1⟩ : ∃ f, fullT (negOf np tp) tp = f := ⟨_, rfl⟩
      obtain ⟨f2, hf2⟩ : ∃ f, fullT (negOf nq tq) tq = f := ⟨_, rfl⟩
      rw [hf1] at T1 hs1
      rw [hf2] at T2 hs2
      have e47 : (⟨#[47]⟩ : ByteArray).size = 1 := rfl
      have hc1 : (f1 ++ (⟨#[47]⟩ : ByteArray)).size ≤ 7000 := by rw [ByteArray.size_append]; omega
      have hc2 : (f1 ++ (⟨#[47]⟩ : ByteArray) ++ f2).size ≤ 14000 := by rw [ByteArray.size_append]; omega
      have HS : Hid (∀ W, Below w6.heap.size w6 W → W.cell? ⟨bp, 0, none⟩ = some (.int .i64 p0) ∧ W.cell? ⟨bp, 1, none⟩ = some (.bool pn) ∧ W.cell? ⟨bp, 2, none⟩ = some (.slice pa pl pc) ∧ W.cell? ⟨bq, 0, none⟩ = some (.int .i64 q0) ∧ W.cell? ⟨bq, 1, none⟩ = some (.bool qn) ∧ W.cell? ⟨bq, 2, none⟩ = some (.slice qa ql qc)) := fun W hW => ⟨(HXP6.out.below HXP6.out.lt hW).cell 0, (HXP6.out.below HXP6.out.lt hW).cell 1, (HXP6.out.below HXP6.out.lt hW).cell 2, (HXQ6.out.below HXQ6.out.lt hW).cell 0, (HXQ6.out.below HXQ6.out.lt hW).cell 1, (HXQ6.out.below HXQ6.out.lt hW).cell 2⟩
      obtain ⟨a0, a1, a2, b0, b1, b2⟩ := HS.out w6 (Below.refl _ _)
      clear hf1 hf2 hzp hzq hlp hlq
      go_wp2_with fail
      go_region_with (first
        | (go_at_call_of 96 (Value.int IntKind.i64 p0)
           refine (T1.out _ ?_).mono ?_
           · exact (Below.refl _ w6).drew
           rintro e wa ⟨rfl, hba⟩
           have HBA : Hid (Below w6.heap.size w6 wa) := (Below.refl _ w6).drew.trans hba
           obtain ⟨_, _, _, m3, m4, m5⟩ := HS.out wa HBA.out
           clear hba)
        | (go_at_call_of 96 (Value.int IntKind.i64 q0)
           refine (T2.out _ ?_).mono ?_
           · exact HBA.out
           rintro e wb ⟨rfl, hbb⟩
           have HBB := hidG (HBA.out.trans (hbb.mono HBA.out.size))
           clear hbb))
      all_goals
        go_wp2
        go_ret
        exact ⟨_, k6, rfl, hc2, by omega, HC6.out.below (HBB.out.mono HC6.out.2.1), HB6.out.trans (Bar.of HBB.out)⟩
    · have z6 : ((r6 : Int) == 0) = false := by rw [beq_eq_false_iff_ne]; omega
      clear h6
      go_wp2_with fail
      refine (pick_any g N k6 8 _ HC6.out (by omega) (by decide) (by decide)).mono ?_
      rintro e w7 ⟨r7, k7, rfl, hr7, hk7, hc7, hb7⟩
      have HC7 := hidG hc7
      have HB7 := hidG (HB6.out.trans hb7)
      have HXP7 := hidG (HXP6.out.bar hb7 (fun e => HGP.out.1 e.symm))
      have HXQ7 := hidG (HXQ6.out.bar hb7 (fun e => HGQ.out.1 e.symm))
      have HP7 := hidG (HP6.out.bar hb7 hgN)
      have HQ7 := hidG (HQ6.out.bar hb7 hgN)
      clear hc7 hb7 z6
      by_cases h7 : r7 = 0
      · have z7 : ((r7 : Int) == 0) = true := by rw [beq_iff_eq]; omega
        clear h7
        go_wp2_with fail
        refine (pick_any g N k7 25 _ HC7.out (by omega) (by decide) (by decide)).mono ?_
        rintro e w8 ⟨r8, k8, rfl, hr8, hk8, hc8, hb8⟩
        have HC8 := hidG hc8
        have HB78 := hidG hb8
        clear hc8 hb8
        go_wp2_with fail
        refine (digX_any g N k8 (1 + r8) _ _ HC8.out (by push_cast; rfl) (by omega) (by omega) (by omega)).mono ?_
        rintro e w9 ⟨v, k9, rfl, hi, hnz, hk9, hc9, hb9⟩
        have HI := hidG hi
        have HNZ := hidG hnz
        have HC9 := hidG hc9
        have HB79 := hidG (HB78.out.trans hb9)
        clear hi hnz hc9 hb9
        go_wp2_with fail
        refine (l1Read_any v _ HI.out).mono ?_
        rintro e w10 ⟨z, rfl, hz, hb10⟩
        obtain ⟨t0, tn, ta, tl, tc, rfl⟩ := hz.shape
        have HB710 : Hid (Bar g w7 w10) := HB79.out.trans (Bar.of hb10)
        have HC10 := hidG (HC9.out.below (hb10.mono HC9.out.2.1))
        have hxp := HXP7.out.bar HB710.out (fun e => HGP.out.1 e.symm)
        have hxq := HXQ7.out.bar HB710.out (fun e => HGQ.out.1 e.symm)
        have hnQ : NoInt w10 bq := noInt_of hxq (by simp)
        have hkp := Keeps.three w10 bq (.int .i64 t0) (.bool tn) (.slice ta tl tc)
        obtain ⟨W11, hW11⟩ : ∃ W11, ((w10.setCell ⟨bq, 0, none⟩ (.int .i64 t0)).setCell ⟨bq, 1, none⟩ (.bool tn)).setCell ⟨bq, 2, none⟩ (.slice ta tl tc) = W11 := ⟨_, rfl⟩
        have HW11 := hidG hW11
        have HP11 : Hid (NumZ N W11 (.agg #[.int .i64 p0, .bool pn, .slice pa pl pc]) ((r2 : Int) - 20) 3) := by
          have h2 := (HP7.out.bar HB710.out hgN).keeps hnQ hnQ hkp
          rw [hW11] at h2; exact h2
        have HQ11 : Hid (NumZ N W11 (.agg #[.int .i64 t0, .bool tn, .slice ta tl tc]) (numT v) 280) := by
          have h1 : NumZ N w10 (.agg #[.int .i64 t0, .bool tn, .slice ta tl tc]) (numT v) 280 := ⟨_, _, hz.mono HC9.out.2.1, rfl, lim_len' v HI.out⟩
          have h2 := h1.keeps hnQ hnQ hkp
          rw [hW11] at h2; exact h2
        have hbs := belowSet3 (Below.refl w.heap.size w10) bq HGQ.out.2.1 (.int .i64 t0) (.bool tn) (.slice ta tl tc)
        rw [hW11] at hbs
        have HC11 := hidG (HC10.out.below (hbs.mono hNw))
        have HB11 : Hid (Bar g w W11) := (HB7.out.trans HB710.out).then hbs
        have HXP11 : Hid (Bx W11 bp [.int .i64 p0, .bool pn, .slice pa pl pc]) := by
          have h := off3 hxp (k := bq) (fun e => HGQ.out.2.2 e.symm) (.int .i64 t0) (.bool tn) (.slice ta tl tc)
          rw [hW11] at h; exact h
        have HXQ11 : Hid (Bx W11 bq [.int .i64 t0, .bool tn, .slice ta tl tc]) := by
          have h : Bx (((w10.setCell ⟨bq, 0, none⟩ (.int .i64 t0)).setCell ⟨bq, 1, none⟩ (.bool tn)).setCell ⟨bq, 2, none⟩ (.slice ta tl tc)) bq [.int .i64 t0, .bool tn, .slice ta tl tc] := ((hxq.set 0 _).set 1 _).set 2 _
          rw [hW11] at h; exact h
        have HY : Hid (numT v ≠ 0) := HNZ.out
        have HYL : Hid ((numT v).natAbs < lb 600) := lb_le 280 600 (by decide) (numT_lt v HI.out)
        have c0 := hxq.cell 0
        have c1 := hxq.cell 1
        have c2 := hxq.cell 2
        simp only [List.getElem?_cons_zero, List.getElem?_cons_succ] at c0 c1 c2
        have x0 := hxq.frozen 0
        have x1 := hxq.frozen 1
        have x2 := hxq.frozen 2
        clear hz hb10 hxp hxq hnQ hkp hW11 hbs
        have a0 := HXP11.out.cell 0
        have a1 := HXP11.out.cell 1
        have a2 := HXP11.out.cell 2
        have b0 := HXQ11.out.cell 0
        have b1 := HXQ11.out.cell 1
        have b2 := HXQ11.out.cell 2
        simp only [List.getElem?_cons_zero, List.getElem?_cons_succ] at a0 a1 a2 b0 b1 b2
        go_upto_region 9 with fail
        rw [HW11.out]
        go_wp2_with fail
        refine (l2Make_any N _ _ _ _ _ HC11.out.2.1 (numZ_le HP11.out (by omega)) (numZ_le HQ11.out (by omega)) HY.out).mono ?_
        rintro e w20 ⟨z, x, y, rfl, hq, hlow, hb20⟩
        have HQN := hidG hq
        have HBD := hidG (low_bd hlow HXL.out HYL.out)
        have HB20 := hidG (HB11.out.trans (Bar.of hb20))
        have HC20 := hidG (HC11.out.below (hb20.mono HC11.out.2.1))
        clear hq hlow hb20 a0 a1 a2 b0 b1 b2
        go_wp2_with fail
        refine (l2TextS_any N z x y _ HC20.out.2.1 HQN.out HBD.out.1 HBD.out.2).mono ?_
        rintro e w21 ⟨u, rfl, hu, hb21⟩
        have HB21 := hidG (HB20.out.trans (Bar.of hb21))
        have HC21 := hidG (HC20.out.below (hb21.mono HC20.out.2.1))
        clear hb21
        go_wp2
        go_ret
        exact ⟨u, k9, rfl, by omega, by omega, HC21.out, HB21.out⟩
      · have z7 : ((r7 : Int) == 0) = false := by rw [beq_eq_false_iff_ne]; omega
        have HY : Hid (1 + (r4 : Int) ≠ 0) := by show 1 + (r4 : Int) ≠ 0; omega
        have HYL : Hid ((1 + (r4 : Int)).natAbs < lb 600) := lb_le 1 600 (by decide) (by unfold lb; omega)
        clear h7
        have a0 := HXP7.out.cell 0
        have a1 := HXP7.out.cell 1
        have a2 := HXP7.out.cell 2
        have b0 := HXQ7.out.cell 0
        have b1 := HXQ7.out.cell 1
        have b2 := HXQ7.out.cell 2
        simp only [List.getElem?_cons_zero, List.getElem?_cons_succ] at a0 a1 a2 b0 b1 b2
        go_wp2_with fail
        refine (l2Make_any N _ _ _ _ _ HC7.out.2.1 (numZ_le HP7.out (by omega)) (numZ_le HQ7.out (by omega)) HY.out).mono ?_
        rintro e w20 ⟨z, x, y, rfl, hq, hlow, hb20⟩
        have HQN := hidG hq
        have HBD := hidG (low_bd hlow HXL.out HYL.out)
        have HB20 := hidG (HB7.out.trans (Bar.of hb20))
        have HC20 := hidG (HC7.out.below (hb20.mono HC7.out.2.1))
        clear hq hlow hb20 a0 a1 a2 b0 b1 b2
        go_wp2_with fail
        refine (l2TextS_any N z x y _ HC20.out.2.1 HQN.out HBD.out.1 HBD.out.2).mono ?_
        rintro e w21 ⟨u, rfl, hu, hb21⟩
        have HB21 := hidG (HB20.out.trans (Bar.of hb21))
        have HC21 := hidG (HC20.out.below (hb21.mono HC20.out.2.1))
        clear hb21
        go_wp2
        go_ret
        exact ⟨u, k7, rfl, by omega, by omega, HC21.out, HB21.out⟩
set_option maxRecDepth 100000 in
set_option maxHeartbeats 1000000 in
theorem l2Pair_any (a : Option Addr) (n cap : Nat) (w : World) (h : CodeArg w a n cap) :
    Calls Tryz.prog 56 #[.slice a n cap] w fun e w' => ∃ u v : ByteArray, e = .returned (.tuple #[.string u, .string v]) ∧ u.size ≤ 14000 ∧ v.size ≤ 14000 ∧ Below w.heap.size w w' := by
  obtain ⟨W0, hW0⟩ : ∃ W0, w.alloc (.cells #[.slice a n cap, .int .i64 0, .int .u64 0] 77) = W0 := ⟨_, rfl⟩
  have HW0 := hidG hW0
  have HC0 : Hid (IsCur w.heap.size (w.heap.size + 1) W0 0) := by show IsCur _ _ _ _; rw [← hW0]; exact cur_new h _
  have HB0 : Hid (Below w.heap.size w W0) := by show Below _ _ _; rw [← hW0]; exact below_alloc _ _
  clear h hW0
  go_enter Tryz.func56, Tryz.ntmps56
  go_wp2_with fail
  rw [HW0.out]
  refine (rat_any _ _ 0 W0 HC0.out (by decide)).mono ?_
  rintro e w1 ⟨u, k1, rfl, hu, hk1, hc1, hb1⟩
  have HC1 := hidG hc1
  have HB1 := hidG hb1
  clear hc1 hb1
  go_wp2_with fail
  refine (rat_any _ _ k1 w1 HC1.out (by omega)).mono ?_
  rintro e w2 ⟨v, k2, rfl, hv, hk2, hc2, hb2⟩
  have HEND := hidG (cur_end HB0.out (HB1.out.trans hb2))
  clear hc2 hb2
  go_wp2
  go_ret2
  exact ⟨u, v, rfl, hu, hv, HEND.out⟩
set_option maxRecDepth 100000 in
set_option maxHeartbeats 1000000 in
theorem drawDiv_any (a : Option Addr) (n cap : Nat) (w : World) (h : CodeArg w a n cap) :
    Calls Tryz.prog 22 #[.slice a n cap] w fun e w' => ∃ u v : ByteArray, e = .returned (.tuple #[.string u, .string v]) ∧ u.size ≤ 14000 ∧ v.size ≤ 14000 ∧ Below w.heap.size w w' := by
  have H := hidG h
  clear h
  go_enter Tryz.func22, Tryz.ntmps22
  go_wp2_with fail
  refine (l2Pair_any a n cap _ H.out).mono ?_
  rintro e w1 ⟨u, v, rfl, hu, hv, hb⟩
  have HB := hidG hb
  clear hb
  go_wp2
  go_ret2
  exact ⟨u, v, rfl, hu, hv, HB.out⟩
end Go.Proofs.YtpjnglcojamfmaaGreatDoor
namespace Go.Proofs.YtpjnglcojamfmaaGreatDoor
open Go.ChangeShapes Go.WideShapes Go.ChangeAt Go.RowKit
theorem int_bytes (s : Bool) (c : UInt8) (l : List UInt8) (hall : (c :: l).all isDig = true) (hc : c ≠ 48) (hlen : l.length + 1 ≤ 2500) : isIntB (strB ((if s then [45] else []) ++ c :: l)) = true := by
  have hc45 : c ≠ 45 := fun e => by
    rw [e] at hall
    simp [isDig] at hall
  cases s
  · have e1 : ((if false = true then [45] else []) ++ c :: l : List UInt8) = c :: l := rfl
    have en : isNeg (strB (c :: l)) = false := by
      unfold isNeg
      rw [strB_ext0]
      simp [hc45]
    have ed : dgs (strB (c :: l)) = strB (c :: l) := by unfold dgs; rw [en]; rfl
    have hb : (strB (c :: l)).data.toList = c :: l := by simp [strB]
    have hsz : (strB (c :: l)).size = l.length + 1 := by rw [strB_size]; rfl
    rw [e1]
    unfold isIntB
    rw [ed, hb, hsz, hall]
    simp [hlen, hc]
  · have e1 : ((if true = true then [45] else []) ++ c :: l : List UInt8) = 45 :: c :: l := rfl
    have en : isNeg (strB (45 :: c :: l)) = true := by
      unfold isNeg
      rw [strB_ext0]
      rfl
    have ed : (dgs (strB (45 :: c :: l))).data.toList = c :: l := by
      unfold dgs
      rw [en]
      exact strB_ext1 45 _
    have hsz : (dgs (strB (45 :: c :: l))).size = l.length + 1 := by
      have h5 : (dgs (strB (45 :: c :: l))).data.toList.length = (dgs (strB (45 :: c :: l))).size := by simp
      rw [← h5, ed]
      rfl
    rw [e1]
    unfold isIntB
    rw [ed, hsz, hall]
    simp [hlen, hc]
theorem all_dig {l : List UInt8} (h : ∀ c ∈ l, dig c) : l.all isDig = true := by
  rw [List.all_eq_true]
  intro c hc
  have := h c hc
  unfold isDig
  rw [decide_eq_true_iff]
  exact this
theorem zero_int : isIntB (strB [48]) = true := by
  have en : isNeg (strB [48]) = false := by
    unfold isNeg
    rw [strB_ext0]
    rfl
  have ed : dgs (strB [48]) = strB [48] := by unfold dgs; rw [en]; rfl
  have hb : (strB [48]).data.toList = [48] := by simp [strB]
  have hs : (strB [48]).size = 1 := by rw [strB_size]; rfl
  unfold isIntB
  rw [ed, hs, ByteArray.toList_eq, hb]
  decide
/-- A text of a number that is not too long is an int text. -/
theorem text_int {x : Int} {u : ByteArray} (h : IsText x u) (hu : u ≠ strB []) : isIntB u = true := by
  obtain ⟨neg, t, ok, tr, _, rfl⟩ := h
  unfold textT at *
  by_cases h0 : t.length = 0
  · rw [if_pos h0]; exact zero_int
  · rw [if_neg h0] at hu ⊢
    unfold textS at *
    by_cases h1 : 2500 < (textD t).length
    · rw [if_pos h1] at hu; exact absurd rfl hu
    · rw [if_neg h1]
      have hl := textD_ge t ok tr (by intro e; rw [e] at h0; simp at h0)
      have hd := textD_dig t
      have hh := textD_head t
      cases ht : textD t with
      | nil => rw [ht] at hl; simp at hl
      | cons c r =>
        rw [ht] at hd hh h1
        have hc : c ≠ 48 := fun e => hh (by rw [e]; rfl)
        have := int_bytes (negOf neg t) c r (all_dig hd) hc (by simpa using h1)
        cases hn : negOf neg t
        · rw [hn] at this; exact this
        · rw [hn] at this; exact this
theorem text_num {x : Int} {u : ByteArray} (h : IsText x u) (hu : u ≠ strB []) : isIntB u = true ∧ numT u = x := by
  have hi := text_int h hu
  exact ⟨hi, text_inj (text_back u hi) h hu⟩
theorem num_cons (c : UInt8) (r : List UInt8) : num (c :: r) = (c.toNat - 48) * 10 ^ r.length + num r := by
  obtain ⟨n, hn⟩ : ∃ n, r.length = n := ⟨_, rfl⟩
  induction n generalizing r with
  | zero =>
    have : r = [] := List.eq_nil_of_length_eq_zero hn
    subst this
    simp [num]
  | succ n ih =>
    obtain ⟨a, b, rfl⟩ : ∃ a b, r = a ++ [b] := ⟨r.dropLast, r.getLast (by intro e; rw [e] at hn; cases hn), (List.dropLast_concat_getLast _).symm⟩
    have hla : a.length = n := by simpa using hn
    have e1 : c :: (a ++ [b]) = (c :: a) ++ [b] := rfl
    rw [e1, num_snoc, num_snoc, ih a hla]
    simp only [List.length_append, List.length_cons, List.length_nil, Nat.zero_add, Nat.pow_succ]
    rw [Nat.add_mul, Nat.mul_assoc]
    omega
/-- How long the digits are, and how large the number. -/
theorem digits_len (t : List Nat) (ok : okL t) (tr : isTrim t) (h0 : t ≠ []) (K : Nat) : K < (textD t).length ↔ 10 ^ K ≤ val t := by
  have hl := textD_ge t ok tr h0
  have hd := textD_dig t
  have hh := textD_head t
  have hn := num_textD t ok
  have hu := num_lt (textD t) hd
  constructor
  · intro h
    cases ht : textD t with
    | nil => rw [ht] at h; simp at h
    | cons c r =>
      rw [ht] at hd hh h hn
      have hc : c ≠ 48 := fun e => hh (by rw [e]; rfl)
      have h1 := hd c (by simp)
      have h2 : 49 ≤ c.toNat := by
        have h3 : c.toNat ≠ 48 := fun e => hc (UInt8.toNat_inj.1 (by rw [e]; rfl))
        have := h1.1
        omega
      have h3 := num_cons c r
      have h4 : 10 ^ K ≤ 10 ^ r.length := Nat.pow_le_pow_right (by decide) (by simpa using Nat.lt_succ_iff.1 h)
      have h5 : 1 * 10 ^ r.length ≤ (c.toNat - 48) * 10 ^ r.length := Nat.mul_le_mul_right _ (by omega)
      omega
  · intro h
    rcases Nat.lt_or_ge K (textD t).length with h1 | h1
    · exact h1
    · have h2 := Nat.pow_le_pow_right (n := 10) (by decide) h1
      omega
/-- What is no greater than a number with a text has one. -/
theorem text_le {x y : Int} {u v : ByteArray} (hu : IsText x u) (hv : IsText y v) (hne : v ≠ strB []) (h : x.natAbs ≤ y.natAbs) : u ≠ strB [] := by
  obtain ⟨n1, t1, o1, r1, e1, rfl⟩ := hu
  obtain ⟨n2, t2, o2, r2, e2, rfl⟩ := hv
  rw [← e1, ← e2, sg_abs, sg_abs] at h
  unfold textT at *
  by_cases h1 : t1.length = 0
  · rw [if_pos h1]; decide
  · have z1 : t1 ≠ [] := by intro e; rw [e] at h1; simp at h1
    rw [if_neg h1]
    have hv1 := val_ge t1 r1 z1
    have hpos : 0 < 1000000000 ^ (t1.length - 1) := Nat.pow_pos (by decide)
    have h2 : t2.length ≠ 0 := by
      intro e
      have : t2 = [] := List.eq_nil_of_length_eq_zero e
      rw [this] at h
      simp [val] at h
      omega
    have z2 : t2 ≠ [] := by intro e; rw [e] at h2; simp at h2
    rw [if_neg h2] at hne
    unfold textS at *
    by_cases h3 : 2500 < (textD t2).length
    · rw [if_pos h3] at hne; exact absurd rfl hne
    · have h4 : ¬ 2500 < (textD t1).length := fun h5 => h3 ((digits_len t2 o2 r2 z2 2500).2 (Nat.le_trans ((digits_len t1 o1 r1 z1 2500).1 h5) h))
      rw [if_neg h4]
      split
      · intro e
        have := congrArg ByteArray.size e
        rw [strB_size, strB_size] at this
        simp at this
      · intro e
        have h6 := congrArg ByteArray.size e
        rw [strB_size, strB_size] at h6
        have := textD_ge t1 o1 r1 z1
        simp only [List.length_nil] at h6
        omega
end Go.Proofs.YtpjnglcojamfmaaGreatDoor
namespace Go.Proofs.YtpjnglcojamfmaaGreatDoor
open Go.ChangeShapes Go.WideShapes Go.ChangeAt Go.RowKit
theorem isDiv_bd {x y q r : Int} (h : IsDiv x y q r) : q.natAbs ≤ x.natAbs ∧ r.natAbs < y.natAbs := by
  obtain ⟨e, r0, r1⟩ := h
  refine ⟨?_, by omega⟩
  rcases Nat.lt_or_ge x.natAbs q.natAbs with h1 | h1
  · exfalso
    have h2 : (q * y).natAbs = q.natAbs * y.natAbs := Int.natAbs_mul q y
    have h3 : (q * y).natAbs ≤ x.natAbs + r.natAbs := by
      have e2 : q * y = x - r := by omega
      rw [e2]; omega
    have h4 : (x.natAbs + 1) * y.natAbs ≤ q.natAbs * y.natAbs := Nat.mul_le_mul_right _ h1
    have h5 : (x.natAbs + 1) * y.natAbs = x.natAbs * y.natAbs + y.natAbs := by rw [Nat.add_mul, Nat.one_mul]
    have h6 : x.natAbs * 1 ≤ x.natAbs * y.natAbs := Nat.mul_le_mul_left _ (by omega)
    omega
  · exact h1
/-- The remainder by a divisor is 0. -/
theorem isDiv_dvd {x g q r : Int} (h : IsDiv x g q r) (hd : g ∣ x) : r = 0 := by
  obtain ⟨e, r0, r1⟩ := h
  obtain ⟨c, hc⟩ := hd
  have h1 : g ∣ r := ⟨c - q, by rw [Int.mul_sub, ← hc, Int.mul_comm g q]; omega⟩
  have h2 : g.natAbs ∣ r.natAbs := Int.natAbs_dvd_natAbs.2 h1
  rcases Nat.eq_zero_or_pos r.natAbs with h3 | h3
  · omega
  · have := Nat.le_of_dvd h3 h2
    omega
theorem sqO_lt {r y : Int} (h : r.natAbs < y.natAbs) : ordI (r * r) (y * y) = -1 := by
  have h1 : r.natAbs * r.natAbs < y.natAbs * y.natAbs := Nat.mul_lt_mul'' h h
  have h2 : (r * r) = ((r.natAbs * r.natAbs : Nat) : Int) := (Int.natAbs_mul_self).symm
  have h3 : (y * y) = ((y.natAbs * y.natAbs : Nat) : Int) := (Int.natAbs_mul_self).symm
  unfold ordI
  rw [h2, h3, if_pos (by exact_mod_cast h1)]
theorem ord_pos {r : Int} (h : 0 ≤ r) : ¬ ordI r 0 < 0 := by
  unfold ordI
  split
  · omega
  · split <;> decide
/-- A text is the text of its number; so what has the same number is the same text. -/
theorem text_same {x : Int} {u a : ByteArray} (h : IsText x u) (ha : isIntB a = true) (e : x = numT a) : u = a := by
  rw [e] at h
  exact h.eq (text_back a ha)
theorem int_ne {a : ByteArray} (h : isIntB a = true) : a ≠ strB [] := by
  rintro rfl
  have : isIntB (strB []) = false := isInt_empty (strB []) _ rfl (by
    have := dgs_size (strB [])
    rw [strB_size] at this
    simpa using this)
  rw [this] at h
  cases h
theorem cmpF_ord {s t : ByteArray} (hs : isIntB s = true) (ht : isIntB t = true) : cmpF s t = ordI (numT s) (numT t) := by
  unfold cmpF
  rw [if_pos ⟨hs, ht⟩]
  exact cmpI_ord (isNeg s) (isNeg t) (lim s) (lim t) (lim_ok s hs) (lim_ok t ht) (trimL_trim _) (trimL_trim _)
theorem cmpF_no {s t : ByteArray} (h : ¬ (isIntB s = true ∧ isIntB t = true)) : cmpF s t = -2 := by unfold cmpF; rw [if_neg h]
/-- (x1/y1) / (x2/y2) times x2/y2 is x1/y1. -/
theorem back_low {x1 y1 x2 y2 p q a b : Int} (h1 : 0 < y1) (hg : Int.gcd x1 y1 = 1) (h2 : y2 ≠ 0) (hx : x2 ≠ 0) (hl : IsLow (x1 * y2) (y1 * x2) p q) (hm : IsLow (p * x2) (q * y2) a b) : a = x1 ∧ b = y1 := by
  obtain ⟨c, c0, e1, e2, q0, _⟩ := hl
  obtain ⟨d, d0, e3, e4, b0, g2⟩ := hm
  -- a / b = (p x2) / (q y2) = x1 / y1
  have hcross : a * y1 = x1 * b := by
    have k1 : a * d * (q * y2) = b * d * (p * x2) := by rw [← e3, ← e4]; exact Int.mul_comm _ _
    have k2 : (p * c) * (y1 * x2) = (q * c) * (x1 * y2) := by rw [← e1, ← e2]; exact Int.mul_comm _ _
    have k3 : (a * y1) * (d * c * q * y2 * x2) = (x1 * b) * (d * c * q * y2 * x2) := by
      have t1 : (a * y1) * (d * c * q * y2 * x2) = (a * d * (q * y2)) * (c * (y1 * x2)) := by simp only [Int.mul_comm, Int.mul_left_comm]
      have t2 : (x1 * b) * (d * c * q * y2 * x2) = (b * d * x2) * ((q * c) * (x1 * y2)) := by simp only [Int.mul_comm, Int.mul_left_comm]
      have t3 : (b * d * (p * x2)) * (c * (y1 * x2)) = (b * d * x2) * ((p * c) * (y1 * x2)) := by simp only [Int.mul_comm, Int.mul_left_comm]
      rw [t1, t2, k1, t3, k2]
    refine Int.eq_of_mul_eq_mul_right ?_ k3
    exact Int.mul_ne_zero (Int.mul_ne_zero (Int.mul_ne_zero (Int.mul_ne_zero d0 c0) (by omega)) h2) hx
  have hgab : Int.gcd a b = 1 := by
    rw [e3, e4, Int.gcd_mul_right] at g2
    have h3 : 0 < d.natAbs := Int.natAbs_pos.2 d0
    have h4 : 1 * d.natAbs = Int.gcd a b * d.natAbs := by rw [Nat.one_mul]; exact g2
    exact (Nat.eq_of_mul_eq_mul_right h3 h4).symm
  have l1 : IsLow (a * y1) (b * y1) a b := ⟨y1, by omega, rfl, rfl, b0, by rw [Int.gcd_mul_right, hgab, Nat.one_mul]⟩
  have l2 : IsLow (a * y1) (b * y1) x1 y1 := ⟨b, by omega, hcross, Int.mul_comm _ _, h1, by rw [hcross, Int.mul_comm b y1, Int.gcd_mul_right, hg, Nat.one_mul]⟩
  exact isLow_unique l1 l2
theorem int_noslash {s : ByteArray} (h : isIntB s = true) : ∀ j : Nat, s.data.toList[j]? ≠ some 47 := by
  have hd := (isIntB_dig s h).1
  have hall : ∀ c ∈ s.data.toList, c ≠ 47 := by
    intro c hc e
    cases hn : isNeg s
    · have := pos_text s hn
      rw [this] at hc
      have hc' : c ∈ (dgs s).data.toList := by simpa [strB] using hc
      have := hd c hc'
      rw [e] at this
      exact absurd this.1 (by decide)
    · have := neg_text s hn
      rw [this] at hc
      have hc' : c = 45 ∨ c ∈ (dgs s).data.toList := by simpa [strB] using hc
      rcases hc' with h1 | h1
      · rw [e] at h1; exact absurd h1 (by decide)
      · have := hd c h1
        rw [e] at this
        exact absurd this.1 (by decide)
  intro j hj
  exact hall 47 (List.mem_of_getElem? hj) rfl
theorem size_ne {u : ByteArray} : u ≠ strB [] ↔ u.size ≠ 0 := by
  constructor
  · intro h e
    refine h (ByteArray.ext ?_)
    have : u.data.size = 0 := e
    rw [Array.eq_empty_of_size_eq_zero this]
    rfl
  · rintro h rfl
    exact h (strB_size [])
theorem ba_ext {a b : ByteArray} (h : a.data.toList = b.data.toList) : a = b := ByteArray.ext (Array.toList_inj.1 h)
theorem ext_drop (s : ByteArray) (a : Nat) : (s.extract a s.size).data.toList = s.data.toList.drop a := by
  rw [ByteArray.data_extract, Array.toList_extract]
  show (s.data.toList.drop a).take (s.size - a) = _
  exact List.take_of_length_le (by rw [List.length_drop]; exact Nat.le_refl _)
theorem slash_list (p q : ByteArray) : (p ++ ⟨#[47]⟩ ++ q).data.toList = p.data.toList ++ 47 :: q.data.toList := by simp
/-- A rat text is the text of its number. -/
theorem ratV_text {c : ByteArray} {k : Option Nat} {x y : Int} (hk : IsCut c k) (h : RatV c k x y) : TextR x y c := by
  cases k with
  | none =>
    obtain ⟨h1, rfl, rfl⟩ := h
    unfold TextR
    rw [if_pos rfl]
    exact text_back c h1
  | some i =>
    obtain ⟨⟨h1, h2⟩, ⟨h3, h4, h5, h6, h7⟩, rfl, rfl⟩ := h
    have hy : numT (cutQ c (some i)) ≠ 1 := fun e => h5 (numT_inj _ _ h2 int_one (by rw [e, num_one]))
    unfold TextR
    rw [if_neg hy]
    refine ⟨_, _, text_back _ h1, text_back _ h2, ?_⟩
    have n1 := size_ne.1 (text_ne _ h1)
    have n2 := size_ne.1 (text_ne _ h2)
    rw [if_neg (by omega)]
    have hi := isCut_lt hk
    refine ba_ext ?_
    rw [slash_list]
    have e0 := hk.1
    have e1 : (cutP c (some i)).data.toList = c.data.toList.take i := by simp [cutP]
    have e2 : (cutQ c (some i)).data.toList = c.data.toList.drop (i + 1) := ext_drop c (i + 1)
    rw [e1, e2]
    obtain ⟨hl, he⟩ := List.getElem?_eq_some_iff.1 e0
    rw [← he, ← List.drop_eq_getElem_cons hl, List.take_append_drop]
/-- A text of a number in lowest terms, where it has one, is a rat text of that number. -/
theorem text_ratV {z : ByteArray} {p q : Int} (h : TextR p q z) (h0 : 0 < q) (hg : Int.gcd p q = 1) (hz : z ≠ strB []) : ∃ k, IsCut z k ∧ RatV z k p q := by
  unfold TextR at h
  by_cases h1 : q = 1
  · rw [if_pos h1] at h
    obtain ⟨i1, i2⟩ := text_num h hz
    exact ⟨none, int_noslash i1, i1, i2.symm, h1⟩
  · rw [if_neg h1] at h
    obtain ⟨u, v, hu, hv, rfl⟩ := h
    by_cases h2 : u.size = 0 ∨ v.size = 0
    · rw [if_pos h2] at hz
      exact absurd rfl hz
    · rw [if_neg h2]
      have nu : u ≠ strB [] := size_ne.2 (by omega)
      have nv : v ≠ strB [] := size_ne.2 (by omega)
      obtain ⟨i1, i2⟩ := text_num hu nu
      obtain ⟨j1, j2⟩ := text_num hv nv
      have hsl := slash_list u v
      have hlen : u.data.toList.length = u.size := by simp
      have e1 : cutP (u ++ ⟨#[47]⟩ ++ v) (some u.size) = u := ba_ext (by
        have : (cutP (u ++ ⟨#[47]⟩ ++ v) (some u.size)).data.toList = (u ++ ⟨#[47]⟩ ++ v).data.toList.take u.size := by simp [cutP]
        rw [this, hsl, List.take_append_of_le_length (by omega), List.take_of_length_le (by omega)])
      have e2 : cutQ (u ++ ⟨#[47]⟩ ++ v) (some u.size) = v := ba_ext (by
        have : (cutQ (u ++ ⟨#[47]⟩ ++ v) (some u.size)).data.toList = (u ++ ⟨#[47]⟩ ++ v).data.toList.drop (u.size + 1) := ext_drop _ _
        rw [this, hsl, ← hlen, List.drop_append, List.drop_eq_nil_of_le (by omega)]
        simp)
      refine ⟨some u.size, ⟨?_, ?_⟩, ?_⟩
      · rw [hsl, List.getElem?_append_right (by omega), hlen, Nat.sub_self]
        rfl
      · intro j hj
        rw [hsl, List.getElem?_append_left (by omega)]
        exact int_noslash i1 j
      · show (isIntB (cutP _ _) = true ∧ isIntB (cutQ _ _) = true) ∧ (numT (cutQ _ _) ≠ 0 ∧ cutP _ _ ≠ strB [48] ∧ cutQ _ _ ≠ strB [49] ∧ isNeg (cutQ _ _) = false ∧ Int.gcd (numT (cutP _ _)) (numT (cutQ _ _)) = 1) ∧ p = numT (cutP _ _) ∧ q = numT (cutQ _ _)
        rw [e1, e2]
        refine ⟨⟨i1, j1⟩, ⟨by omega, ?_, ?_, numT_neg v (by omega), by rw [i2, j2]; exact hg⟩, i2.symm, j2.symm⟩
        · rintro rfl
          rw [num_nil] at i2
          rw [← i2] at hg
          have : q.natAbs = 1 := by simpa using hg
          omega
        · rintro rfl
          rw [num_one] at j2
          exact h1 j2.symm
theorem low_gcd {x y p q : Int} (h : IsLow x y p q) : Int.gcd p q = 1 := by
  obtain ⟨d, d0, e3, e4, b0, g2⟩ := h
  rw [e3, e4, Int.gcd_mul_right] at g2
  have h3 : 0 < d.natAbs := Int.natAbs_pos.2 d0
  have h4 : 1 * d.natAbs = Int.gcd p q * d.natAbs := by rw [Nat.one_mul]; exact g2
  exact (Nat.eq_of_mul_eq_mul_right h3 h4).symm
theorem ratV_gcd {c : ByteArray} {k : Option Nat} {x y : Int} (h : RatV c k x y) : Int.gcd x y = 1 := by
  cases k with
  | none => rw [h.2.2]; simp
  | some i => rw [h.2.2.1, h.2.2.2]; exact h.2.1.2.2.2.2
/-- What the last row of the law says. -/
theorem div_mul {c d z v : ByteArray} (h : RatDivRes c d z) (hz : z ≠ strB []) (hm : RatMulRes z d v) : v = c := by
  obtain ⟨k, m, hk, hmc, h⟩ := h
  rcases h with ⟨x1, y1, x2, y2, p, q, hV1, hV2, h0, hl, ht⟩ | ⟨_, h⟩
  · have hq : 0 < q := by obtain ⟨_, _, _, _, h, _⟩ := hl; exact h
    obtain ⟨kz, hkz, hVz⟩ := text_ratV ht hq (low_gcd hl) hz
    obtain ⟨k', m', hk', hm', h⟩ := hm
    obtain rfl := isCut_unique hk' hkz
    obtain rfl := isCut_unique hm' hmc
    rcases h with ⟨a1, b1, a2, b2, p', q', g1, g2, _, hl', ht'⟩ | ⟨h, _⟩
    · obtain ⟨rfl, rfl⟩ := ratV_one g1 hVz
      obtain ⟨rfl, rfl⟩ := ratV_one g2 hV2
      have hy1 := (ratV_lt hV1).2.2
      have hy2 := (ratV_lt hV2).2.2
      obtain ⟨rfl, rfl⟩ := back_low hy1 (ratV_gcd hV1) (by omega) h0 hl hl'
      exact ht'.eq (ratV_text hk hV1)
    · exact absurd ⟨_, _, _, _, hVz, hV2, trivial⟩ h
  · exact absurd h hz
/-- A number of at most 2500 digits has a text. -/
theorem text_has {x : Int} {u : ByteArray} (hu : IsText x u) (h : x.natAbs < 10 ^ 2500) : u ≠ strB [] := by
  obtain ⟨n1, t1, o1, r1, e1, rfl⟩ := hu
  rw [← e1, sg_abs] at h
  unfold textT
  by_cases h1 : t1.length = 0
  · rw [if_pos h1]; decide
  · have z1 : t1 ≠ [] := by intro e; rw [e] at h1; simp at h1
    rw [if_neg h1]
    unfold textS
    have h4 : ¬ 2500 < (textD t1).length := fun h5 => Nat.not_le_of_lt h ((digits_len t1 o1 r1 z1 2500).1 h5)
    rw [if_neg h4]
    have := textD_ge t1 o1 r1 z1
    split
    · rw [size_ne, strB_size]; simp
    · rw [size_ne, strB_size]; omega
/-- A text of few digits is of a small number. -/
theorem num_small {b : ByteArray} (h : isIntB b = true) (n : Nat) (hn : b.size ≤ n) : (numT b).natAbs < 10 ^ n := by
  have hd := isIntB_dig b h
  have e := text_back b h
  have hne := text_ne b h
  obtain ⟨neg, t, ok, tr, ex, eb⟩ := e
  rw [← ex, sg_abs]
  unfold textT at eb
  by_cases h1 : t.length = 0
  · have : t = [] := List.eq_nil_of_length_eq_zero h1
    rw [this]
    exact Nat.pow_pos (by decide)
  · have z1 : t ≠ [] := by intro e; rw [e] at h1; simp at h1
    rw [if_neg h1] at eb
    unfold textS at eb
    by_cases h2 : 2500 < (textD t).length
    · rw [if_pos h2] at eb; exact absurd eb hne
    · rw [if_neg h2] at eb
      have h3 : (textD t).length ≤ n := by
        rw [eb] at hn
        split at hn <;> rw [strB_size] at hn
        · rw [List.length_cons] at hn; omega
        · exact hn
      exact Nat.lt_of_not_le fun h5 => Nat.not_lt_of_le h3 ((digits_len t ok tr z1 n).2 h5)
end Go.Proofs.YtpjnglcojamfmaaGreatDoor
namespace Go.Proofs.YtpjnglcojamfmaaGreatDoor
open Go.ChangeShapes Go.WideShapes Go.ChangeAt Go.RowKit
theorem res_no {f : Int → Int → Int} {s t u : ByteArray} (h : IsRes f s t u) (hn : ¬ (isIntB s = true ∧ isIntB t = true)) : u = strB [] := by
  unfold IsRes at h; rw [if_neg hn] at h; exact h
theorem res_yes {f : Int → Int → Int} {s t u : ByteArray} (h : IsRes f s t u) (hs : isIntB s = true) (ht : isIntB t = true) : IsText (f (numT s) (numT t)) u := by
  unfold IsRes at h; rw [if_pos ⟨hs, ht⟩] at h; exact h
theorem max_of {u : ByteArray} {n : Nat} (h : u.size ≤ n) (hn : n ≤ 100000) : u.size ≤ maxLen := by unfold maxLen; omega
theorem resQ_size {N D : Int → Int → Int → Int → Int} {ok : Int → Prop} {s t u : ByteArray} (h : IsResQ N D ok s t u) : u.size ≤ 6000 := by
  obtain ⟨k, m, _, _, h⟩ := h
  rcases h with ⟨x1, y1, x2, y2, p, q, _, _, _, _, h⟩ | ⟨_, rfl⟩
  · unfold TextR at h
    split at h
    · have := text_size h; omega
    · obtain ⟨p, q, h1, h2, rfl⟩ := h
      have g1 := text_size h1
      have g2 := text_size h2
      split
      · exact Nat.zero_le _
      · have e : (p ++ ⟨#[47]⟩ ++ q).size = p.size + 1 + q.size := by rw [ByteArray.size_append, ByteArray.size_append]; rfl
        omega
  · exact Nat.zero_le _
theorem sq_pow {b k m : Nat} (h : b < 10 ^ k) (hm : k + k ≤ m) : b * b < 10 ^ m :=
  Nat.lt_of_lt_of_le (by rw [Nat.pow_add]; exact Nat.mul_lt_mul'' h h) (Nat.pow_le_pow_right (by decide) hm)
/-- The remainder's square is smaller, where both have a text. -/
theorem sq_small {r b R B : ByteArray} (hr : isIntB r = true) (hb : isIntB b = true) (hlt : (numT r).natAbs < (numT b).natAbs) (hsz : b.size < 1000) (hR : IsRes (· * ·) r r R) (hB : IsRes (· * ·) b b B) : cmpF R B = -1 := by
  have h1 := res_yes hR hr hr
  have h2 := res_yes hB hb hb
  have k := num_small hb 1000 (by omega)
  have k2 : (numT b * numT b).natAbs < 10 ^ 2500 := by
    rw [Int.natAbs_mul]
    exact sq_pow (k := 1000) (m := 2500) k (by decide)
  have k3 : (numT r * numT r).natAbs ≤ (numT b * numT b).natAbs := by
    rw [Int.natAbs_mul, Int.natAbs_mul]
    exact Nat.le_of_lt (Nat.mul_lt_mul'' hlt hlt)
  obtain ⟨i1, i2⟩ := text_num h1 (text_has h1 (Nat.lt_of_le_of_lt k3 k2))
  obtain ⟨j1, j2⟩ := text_num h2 (text_has h2 k2)
  rw [cmpF_ord i1 j1, i2, j2]
  exact sqO_lt hlt
/-- What the program's division answers, where b is not 0. -/
theorem divD {a b q r : ByteArray} (h : IsResD a b q r) (ha : isIntB a = true) (hb : isIntB b = true) (h0 : numT b ≠ 0) : isIntB q = true ∧ isIntB r = true ∧ IsDiv (numT a) (numT b) (numT q) (numT r) := by
  unfold IsResD at h
  rw [if_pos ⟨ha, hb, h0⟩] at h
  obtain ⟨Q, R, hd, hq, hr⟩ := h
  have bd := isDiv_bd hd
  obtain ⟨i1, i2⟩ := text_num hq (text_le hq (text_back a ha) (text_ne a ha) bd.1)
  obtain ⟨j1, j2⟩ := text_num hr (text_le hr (text_back b hb) (text_ne b hb) (Nat.le_of_lt bd.2))
  exact ⟨i1, j1, by rw [i2, j2]; exact hd⟩
theorem gcd_text {a b g : ByteArray} (h : IsRes gcdI a b g) (ha : isIntB a = true) (hb : isIntB b = true) (h0 : numT b ≠ 0) : isIntB g = true ∧ numT g = gcdI (numT a) (numT b) := by
  have h1 := res_yes h ha hb
  refine text_num h1 (text_le h1 (text_back b hb) (text_ne b hb) ?_)
  show (gcdI (numT a) (numT b)).natAbs ≤ _
  unfold gcdI
  rw [Int.natAbs_natCast]
  exact Nat.le_of_dvd (Int.natAbs_pos.2 h0) (Int.gcd_dvd_natAbs_right _ _)
theorem rem_zero {x g q r : ByteArray} (h : IsResD x g q r) (hx : isIntB x = true) (hg : isIntB g = true) (h0 : numT g ≠ 0) (hd : numT g ∣ numT x) : r = strB [48] := by
  unfold IsResD at h
  rw [if_pos ⟨hx, hg, h0⟩] at h
  obtain ⟨Q, R, hdv, hq, hr⟩ := h
  have := isDiv_dvd hdv hd
  exact text_same hr zero_int (by rw [this, num_nil])
theorem sub_back {u v s x : ByteArray} (hs : IsRes (· + ·) u v s) (hne : s ≠ strB []) (hu : isIntB u = true) (hv : isIntB v = true) (hx : IsRes (· - ·) s v x) : x = u := by
  obtain ⟨i1, i2⟩ := text_num (res_yes hs hu hv) hne
  refine text_same (res_yes hx i1 hv) hu ?_
  show numT s - numT v = numT u
  have : numT s = numT u + numT v := i2
  omega
theorem div_back {u v q r b x : ByteArray} (hb : IsRes (· * ·) q v b) (hne : b ≠ strB []) (hd : isIntB q = true ∧ isIntB r = true ∧ IsDiv (numT u) (numT v) (numT q) (numT r)) (hu : isIntB u = true) (hv : isIntB v = true) (hx : IsRes (· + ·) b r x) : x = u := by
  obtain ⟨i1, i2⟩ := text_num (res_yes hb hd.1 hv) hne
  refine text_same (res_yes hx i1 hd.2.1) hu ?_
  show numT b + numT r = numT u
  have e1 : numT b = numT q * numT v := i2
  have e2 := hd.2.2.1
  omega
theorem resD_size {s t u v : ByteArray} (h : IsResD s t u v) : u.size ≤ 6000 ∧ v.size ≤ 6000 := by
  unfold IsResD at h
  split at h
  · obtain ⟨q, r, _, h1, h2⟩ := h
    have g1 := text_size h1
    have g2 := text_size h2
    omega
  · rw [h.1, h.2, strB_size]
    exact ⟨Nat.zero_le _, Nat.zero_le _⟩
theorem rem_gcd {x a b g q r : ByteArray} (h : IsResD x g q r) (hx : isIntB x = true) (hg : isIntB g = true) (he : numT g = gcdI (numT a) (numT b)) (h0 : numT b ≠ 0) (hab : x = a ∨ x = b) : r = strB [48] := by
  have hn : numT g ≠ 0 := by
    rw [he]
    unfold gcdI
    have : 0 < Int.gcd (numT a) (numT b) := Int.gcd_pos_of_ne_zero_right _ h0
    omega
  refine rem_zero h hx hg hn ?_
  rw [he]
  rcases hab with rfl | rfl
  · exact Int.gcd_dvd_left ..
  · exact Int.gcd_dvd_right ..
set_option maxRecDepth 100000 in
set_option maxHeartbeats 8000000 in
theorem numbers_any (a : Option Addr) (n cap : Nat) (w : World) (hA : CodeArg w a n cap) (h : LT w ∧ SP w ∧ NS w) :
    Calls Tryz.prog 3 #[.slice a n cap] w fun e w' => e = .returned (.bool true) ∧ Below w.heap.size w w' := by
  have hcap := hA.2.1
  have hn := hA.1
  unfold maxLen at hcap
  have HA := hidG hA
  have HS : Hid (LT w ∧ SP w ∧ NS w) := h
  clear hA h
  by_cases c : 1048576 < n
  · have z : decide (1048576 < (n : Int)) = true := by rw [decide_eq_true_iff]; omega
    go_enter Tryz.func3, Tryz.ntmps3
    go_wp2
    go_ret
    exact ⟨rfl, Below.refl _ _⟩
  have z : decide (1048576 < (n : Int)) = false := by rw [decide_eq_false_iff_not]; omega
  clear c
  go_enter Tryz.func3, Tryz.ntmps3
  go_wp2_with fail
  refine (drawAdd_any a n cap _ HA.out).mono ?_
  rintro e w1 ⟨u, v, rfl, hu, hv, hb1⟩
  have HB1 : Hid (Below w.heap.size w w1) := hb1
  have hul : u.size ≤ maxLen := max_of hu (by decide)
  have hvl : v.size ≤ maxLen := max_of hv (by decide)
  clear hb1
  cases hi : isIntB u
  · have HI := hidG hi
    clear hi
    go_wp2_with fail
    refine (isInt_spec u _ hul).mono ?_
    rintro e w' ⟨rfl, hw'⟩
    subst w'
    rw [HI.out]
    go_wp2_with fail
    refine (implAdd_any u v _ hul hvl (HS.out.2.1.below HB1.out) (HS.out.1.below HB1.out)).mono ?_
    rintro e w2 ⟨x, rfl, hx, hb2⟩
    obtain rfl : x = ⟨#[]⟩ := res_no hx (by rw [HI.out]; simp)
    have HB2 : Hid (Below w.heap.size w w2) := HB1.out.trans (hb2.mono HB1.out.size)
    clear hx hb2
    go_wp2_with fail
    refine (implCmp_any u v _ hul hvl (HS.out.2.1.below HB2.out)).mono ?_
    rintro e w3 ⟨rfl, hb3⟩
    have HB3 : Hid (Below w.heap.size w w3) := HB2.out.trans (hb3.mono HB2.out.size)
    clear hb3
    rw [cmpF_no (by rw [HI.out]; simp)]
    go_wp2
    go_ret
    exact ⟨rfl, HB3.out⟩
  have HI := hidG hi
  clear hi
  go_wp2_with fail
  refine (isInt_spec u _ hul).mono ?_
  rintro e w' ⟨rfl, hw'⟩
  subst w'
  rw [HI.out]
  cases hj : isIntB v
  · have HJ := hidG hj
    clear hj
    go_wp2_with fail
    refine (isInt_spec v _ hvl).mono ?_
    rintro e w' ⟨rfl, hw'⟩
    subst w'
    rw [HJ.out]
    go_wp2_with fail
    refine (implAdd_any u v _ hul hvl (HS.out.2.1.below HB1.out) (HS.out.1.below HB1.out)).mono ?_
    rintro e w2 ⟨x, rfl, hx, hb2⟩
    obtain rfl : x = ⟨#[]⟩ := res_no hx (by rw [HJ.out]; simp)
    have HB2 : Hid (Below w.heap.size w w2) := HB1.out.trans (hb2.mono HB1.out.size)
    clear hx hb2
    go_wp2_with fail
    refine (implCmp_any u v _ hul hvl (HS.out.2.1.below HB2.out)).mono ?_
    rintro e w3 ⟨rfl, hb3⟩
    have HB3 : Hid (Below w.heap.size w w3) := HB2.out.trans (hb3.mono HB2.out.size)
    clear hb3
    rw [cmpF_no (by rw [HJ.out]; simp)]
    go_wp2
    go_ret
    exact ⟨rfl, HB3.out⟩
  have HJ := hidG hj
  clear hj
  go_wp2_with fail
  refine (isInt_spec v _ hvl).mono ?_
  rintro e w' ⟨rfl, hw'⟩
  subst w'
  rw [HJ.out]
  go_wp2_with fail
  refine (implAdd_any u v _ hul hvl (HS.out.2.1.below HB1.out) (HS.out.1.below HB1.out)).mono ?_
  rintro e w2 ⟨s, rfl, hs, hb2⟩
  have HS2 := hidG hs
  have HB2 : Hid (Below w.heap.size w w2) := HB1.out.trans (hb2.mono HB1.out.size)
  clear hs hb2
  have hsl : s.size ≤ maxLen := max_of (res_size HS2.out) (by decide)
  go_upto_region 7 with fail
  go_cut [63] (fun q63 wx => q63 = .bool false ∧ Below w.heap.size w wx)
  case first =>
    go_wp2_with fail
    refine (specAdd_any u v _ hul hvl).mono ?_
    rintro e w3 ⟨s', rfl, hs', hb3⟩
    obtain rfl : s = s' := HS2.out.eq hs'
    have HB3 : Hid (Below w.heap.size w w3) := HB2.out.trans (hb3.mono HB2.out.size)
    clear hs' hb3
    by_cases h0 : s.size = 0
    · have hz : s.toList.isEmpty = true := by rw [empty_iff, decide_eq_true h0]
      clear h0
      go_wp2_with fail
      go_meet
      exact ⟨rfl, HB3.out⟩
    · have hz : s.toList.isEmpty = false := by rw [empty_iff, decide_eq_false h0]
      have HNE := hidG (size_ne.2 h0)
      clear h0
      go_wp2_with fail
      refine (implSub_any s v _ hsl hvl (HS.out.2.1.below HB3.out) (HS.out.1.below HB3.out)).mono ?_
      rintro e w4 ⟨x, rfl, hx, hb4⟩
      obtain rfl : u = x := (sub_back HS2.out HNE.out HI.out HJ.out hx).symm
      have HB4 : Hid (Below w.heap.size w w4) := HB3.out.trans (hb4.mono HB3.out.size)
      clear hx hb4
      go_wp2_with fail
      go_meet
      exact ⟨rfl, HB4.out⟩
  case rest =>
    obtain ⟨rfl, hbc⟩ := hcut
    have HC : Hid (Below w.heap.size w wc) := hbc
    clear hbc
    cases hv0 : (v.toList == [48])
    · have HNZ : Hid (numT v ≠ 0) := zero_text v HJ.out hv0
      go_wp2_with fail
      refine (implDiv_any u v _ hul hvl (HS.out.2.1.below HC.out) (HS.out.1.below HC.out)).mono ?_
      rintro e w5 ⟨q, r, rfl, hqr, hb5⟩
      have HD := hidG (divD hqr HI.out HJ.out HNZ.out)
      have HB5 : Hid (Below w.heap.size w w5) := HC.out.trans (hb5.mono HC.out.size)
      have hql : q.size ≤ maxLen := max_of (resD_size hqr).1 (by decide)
      have hrl : r.size ≤ maxLen := max_of (resD_size hqr).2 (by decide)
      clear hqr hb5
      go_wp2_with fail
      refine (specMul_any q v _ hql hvl).mono ?_
      rintro e w6 ⟨bk, rfl, hbk, hb6⟩
      have HBK := hidG hbk
      have hbl : bk.size ≤ maxLen := max_of (res_size hbk) (by decide)
      have HB6 : Hid (Below w.heap.size w w6) := HB5.out.trans (hb6.mono HB5.out.size)
      clear hbk hb6
      go_upto_region 14 with fail
      go_cut [104] (fun q104 wx => q104 = .bool false ∧ Below w.heap.size w wx)
      case first =>
        go_wp2_with fail
        refine (specCmp_any r ⟨#[48]⟩ _ hrl (by unfold maxLen; decide)).mono ?_
        rintro e w7 ⟨rfl, hb7⟩
        obtain ⟨c1, hc1⟩ : ∃ c1, cmpF r ⟨#[48]⟩ = c1 := ⟨_, rfl⟩
        have hge : 0 ≤ c1 := by
          rw [← hc1]
          have e1 : cmpF r (strB [48]) = ordI (numT r) (numT (strB [48])) := cmpF_ord HD.out.2.1 zero_int
          rw [num_nil] at e1
          have e2 := ord_pos HD.out.2.2.2.1
          have e3 : cmpF r ⟨#[48]⟩ = cmpF r (strB [48]) := rfl
          omega
        rw [hc1]
        have HB7 : Hid (Below w.heap.size w w7) := HB6.out.trans (hb7.mono HB6.out.size)
        clear hb7 hc1
        have z1 : decide (c1 < 0) = false := decide_eq_false (by omega)
        go_wp2_with fail
        refine (specMul_any r r _ hrl hrl).mono ?_
        rintro e w8 ⟨rr, rfl, hrr, hb8⟩
        have HRR := hidG hrr
        have hrrl : rr.size ≤ maxLen := max_of (res_size hrr) (by decide)
        have HB8 : Hid (Below w.heap.size w w8) := HB7.out.trans (hb8.mono HB7.out.size)
        clear hrr hb8
        go_wp2_with fail
        refine (specMul_any v v _ hvl hvl).mono ?_
        rintro e w9 ⟨vv, rfl, hvv, hb9⟩
        have HVV := hidG hvv
        have hvvl : vv.size ≤ maxLen := max_of (res_size hvv) (by decide)
        have HB9 : Hid (Below w.heap.size w w9) := HB8.out.trans (hb9.mono HB8.out.size)
        clear hvv hb9
        go_wp2_with fail
        refine (specCmp_any rr vv _ hrrl hvvl).mono ?_
        rintro e w10 ⟨rfl, hb10⟩
        have HB10 : Hid (Below w.heap.size w w10) := HB9.out.trans (hb10.mono HB9.out.size)
        clear hb10
        by_cases hsz : v.size < 1000
        · rw [sq_small HD.out.2.1 HJ.out (isDiv_bd HD.out.2.2).2 hsz HRR.out HVV.out]
          clear hsz
          go_wp2_with fail
          go_meet
          exact ⟨rfl, HB10.out⟩
        · have z2 : decide ((v.size : Int) < 1000) = false := decide_eq_false (by omega)
          obtain ⟨c2, hc2⟩ : ∃ c2, cmpF rr vv = c2 := ⟨_, rfl⟩
          rw [hc2]
          clear hc2
          by_cases h2 : 0 ≤ c2
          · have z3 : decide (0 ≤ c2) = true := decide_eq_true h2
            go_wp2_with fail
            go_meet
            exact ⟨rfl, HB10.out⟩
          · have z3 : decide (0 ≤ c2) = false := decide_eq_false h2
            go_wp2_with fail
            go_meet
            exact ⟨rfl, HB10.out⟩
      case rest =>
        obtain ⟨rfl, hbc⟩ := hcut
        have HC2 : Hid (Below w.heap.size w wc) := hbc
        clear hbc
        go_upto_region 16 with fail
        go_cut [113] (fun q113 wx => q113 = .bool false ∧ Below w.heap.size w wx)
        case first =>
          by_cases h0 : bk.size = 0
          · have hz : bk.toList.isEmpty = true := by rw [empty_iff, decide_eq_true h0]
            clear h0
            go_wp2_with fail
            go_meet
            exact ⟨rfl, HC2.out⟩
          · have hz : bk.toList.isEmpty = false := by rw [empty_iff, decide_eq_false h0]
            have HNE := hidG (size_ne.2 h0)
            clear h0
            go_wp2_with fail
            refine (specAdd_any bk r _ hbl hrl).mono ?_
            rintro e w7 ⟨x, rfl, hx, hb7⟩
            obtain rfl : u = x := (div_back HBK.out HNE.out HD.out HI.out HJ.out hx).symm
            have HB7 : Hid (Below w.heap.size w w7) := HC2.out.trans (hb7.mono HC2.out.size)
            clear hx hb7
            go_wp2_with fail
            go_meet
            exact ⟨rfl, HB7.out⟩
        case rest =>
          obtain ⟨rfl, hbc⟩ := hcut
          have HC3 : Hid (Below w.heap.size w wc) := hbc
          clear hbc
          go_wp2_with fail
          refine (implGcd_any u v _ hul hvl (HS.out.2.2.below HC3.out) (HS.out.1.below HC3.out)).mono ?_
          rintro e w7 ⟨g, rfl, hg, hb7⟩
          have HG := hidG (gcd_text hg HI.out HJ.out HNZ.out)
          have hgl : g.size ≤ maxLen := max_of (res_size hg) (by decide)
          have HB7 : Hid (Below w.heap.size w w7) := HC3.out.trans (hb7.mono HC3.out.size)
          clear hg hb7
          go_wp2_with fail
          refine (specDiv_any u g _ hul hgl).mono ?_
          rintro e w8 ⟨q1, r1, rfl, hd1, hb8⟩
          obtain rfl : r1 = ⟨#[48]⟩ := rem_gcd hd1 HI.out HG.out.1 HG.out.2 HNZ.out (.inl rfl)
          have HB8 : Hid (Below w.heap.size w w8) := HB7.out.trans (hb8.mono HB7.out.size)
          clear hd1 hb8
          go_wp2_with fail
          refine (specDiv_any v g _ hvl hgl).mono ?_
          rintro e w9 ⟨q2, r2, rfl, hd2, hb9⟩
          obtain rfl : r2 = ⟨#[48]⟩ := rem_gcd hd2 HJ.out HG.out.1 HG.out.2 HNZ.out (.inr rfl)
          have HB9 : Hid (Below w.heap.size w w9) := HB8.out.trans (hb9.mono HB8.out.size)
          clear hd2 hb9
          go_wp2_with fail
          refine (drawDiv_any a n cap _ (HA.out.below HB9.out)).mono ?_
          rintro e w10 ⟨c, d, rfl, hc, hd, hb10⟩
          have hcl : c.size ≤ maxLen := max_of hc (by decide)
          have hdl : d.size ≤ maxLen := max_of hd (by decide)
          have HB10 : Hid (Below w.heap.size w w10) := HB9.out.trans (hb10.mono HB9.out.size)
          clear hb10
          go_wp2_with fail
          refine (implRatDiv_any c d _ hcl hdl (HS.out.2.1.below HB10.out) (HS.out.2.2.below HB10.out) (HS.out.1.below HB10.out)).mono ?_
          rintro e w11 ⟨zz, rfl, hzz, hb11⟩
          have HZ := hidG hzz
          have hzl : zz.size ≤ maxLen := max_of (resQ_size hzz) (by decide)
          have HB11 : Hid (Below w.heap.size w w11) := HB10.out.trans (hb11.mono HB10.out.size)
          clear hzz hb11
          go_wp2_with fail
          refine (specRatDiv_any c d _ hcl hdl).mono ?_
          rintro e w12 ⟨z', rfl, hz', hb12⟩
          obtain rfl : zz = z' := HZ.out.eq hz'
          have HB12 : Hid (Below w.heap.size w w12) := HB11.out.trans (hb12.mono HB11.out.size)
          clear hz' hb12
          by_cases h0 : zz.size = 0
          · have hz : zz.toList.isEmpty = true := by rw [empty_iff, decide_eq_true h0]
            clear h0
            go_wp2
            go_ret
            exact ⟨rfl, HB12.out⟩
          · have hz : zz.toList.isEmpty = false := by rw [empty_iff, decide_eq_false h0]
            have HNE := hidG (size_ne.2 h0)
            clear h0
            go_wp2_with fail
            refine (specRatMul_any zz d _ hzl hdl).mono ?_
            rintro e w13 ⟨m, rfl, hm, hb13⟩
            have HB13 : Hid (Below w.heap.size w w13) := HB12.out.trans (hb13.mono HB12.out.size)
            clear hm hb13
            by_cases h1 : m.size = 0
            · have hz2 : m.toList.isEmpty = true := by rw [empty_iff, decide_eq_true h1]
              clear h1
              go_wp2
              go_ret
              exact ⟨rfl, HB13.out⟩
            · have hz2 : m.toList.isEmpty = false := by rw [empty_iff, decide_eq_false h1]
              clear h1
              go_wp2_with fail
              refine (implRatMul_any zz d _ hzl hdl (HS.out.2.1.below HB13.out) (HS.out.2.2.below HB13.out) (HS.out.1.below HB13.out)).mono ?_
              rintro e w14 ⟨x, rfl, hx, hb14⟩
              obtain rfl : c = x := (div_mul HZ.out HNE.out hx).symm
              have HB14 : Hid (Below w.heap.size w w14) := HB13.out.trans (hb14.mono HB13.out.size)
              clear hx hb14
              go_wp2
              go_ret
              exact ⟨rfl, HB14.out⟩
    · go_wp2_with fail
      refine (implDiv_any u v _ hul hvl (HS.out.2.1.below HC.out) (HS.out.1.below HC.out)).mono ?_
      rintro e w5 ⟨q, r, rfl, hqr, hb5⟩
      obtain ⟨rfl, rfl⟩ : q = ⟨#[]⟩ ∧ r = ⟨#[]⟩ := by
        unfold IsResD at hqr
        rw [if_neg (fun h => h.2.2 (zero_text' v hv0))] at hqr
        exact hqr
      have HB5 : Hid (Below w.heap.size w w5) := HC.out.trans (hb5.mono HC.out.size)
      clear hqr hb5
      go_wp2
      go_ret
      exact ⟨rfl, HB5.out⟩
end Go.Proofs.YtpjnglcojamfmaaGreatDoor
namespace Go.Proofs.YtpjnglcojamfmaaGreatDoor.fnNumbers
open Go.ChangeShapes Go.WideShapes Go.ChangeAt Go.RowKit
open Go.ChangeMaps (open_string shut_string)
set_option linter.unusedVariables false
theorem own : ownKnob Tryz.prog.godebug = none := by kernel_rfl
theorem laidOut : laidOutB Tryz.prog = true := by kernel_rfl
set_option maxRecDepth 100000 in
theorem lifted (os : Os) (started : os.Started) (H : Type) (enc : TypeId × Value → H) :
    ReturnsInHanded {} Tryz.checked os 3 .any (fun w args => (Rows.fnNumbersSpec.pre enc Tryz.prog Tryz.f3 [] false w args ∧ laidMetH Tryz.prog Rows.fnNumbersRow.laid w) ∧ sizedMet enc Tryz.prog Tryz.f3 (OpenSpec.ofChange Rows.fnNumbersSpec) false w args)
      (Rows.fnNumbersSpec.post enc Tryz.prog Tryz.f3 false true false false) := by
  refine returnsInHanded_of_change_and (C := Tryz.checked) (X := fun w _ => laidMetH Tryz.prog Rows.fnNumbersRow.laid w) (fun _ _ _ hh h => h.of_heap hh) own started (by kernel_rfl) Tryz.func3
    (ChangeSpec.witness_shaped (enc := enc) (C := Tryz.checked) (os := os) (X := fun w _ => laidMetH Tryz.prog Rows.fnNumbersRow.laid w) false (World.laidAll Tryz.prog os Rows.fnNumbersRow.laid) #[.slice none 0 0] 8 (World.laidAll_os _ _ _)
      (World.shaped_of_ZipB (by kernel_rfl) (by kernel_rfl)) (by kernel_rfl) (by kernel_rfl) (by kernel_rfl)
      (by rw [MakeChecks.laidMetH_plain _ _ _ (by kernel_rfl)]; exact laidMet_laidAll _ (by kernel_rfl) (by kernel_rfl))) ?_
  intro W base args ds gs before hval0 hW _ _ hL _
  have hval : ∀ (j : Nat) t v, Tryz.f3.params[j]? = some t → args[j]? = some v → Value.okWide Tryz.prog W .any base t v := hval0
  have hW' := hW
  obtain ⟨p, q, hA0, hV, rfl, hfz, hnd⟩ := hW
  have hA : DataW.TrodAll enc Tryz.prog W 0 (fun _ => true) true Tryz.f3.params.toList args.toList ds p := hA0
  rw [Tryz.params3] at hA hval
  obtain ⟨v0, vs0, d0, ds0, p0, q0, hargs, rfl, rfl, h0, r0⟩ := trodAll_cons hA
  obtain ⟨rfl, rfl, rfl⟩ := trodAll_nil r0
  obtain rfl : args = #[v0] := by cases args; simp_all
  obtain ⟨g, t, cs, fuel, d, p', g2, t2, cs2, fuel2, d2, p2, g3, t3, cs3, fuel3, d3, p3, rfl, hg, ht, hvar, hd, hg2, ht2, hvar2, hd2, hg3, ht3, hvar3, hd3, rfl⟩ := trodVars_three hV
  obtain ⟨a0, len0, cap0, rfl⟩ := okWide_slice Tryz.underlying22 (hval 0 22 v0 rfl rfl)
  have k0 := h0
  have lt0 : ∀ x ∈ p0, x.block < W.heap.size := by obtain ⟨m, hm⟩ := k0; exact DataW.trod_lt m _ _ _ hm
  have w0 : CodeArg W a0 len0 cap0 := by
    obtain ⟨fuel, hf⟩ := h0
    rcases open_ints Tryz.underlying22 Tryz.underlying5 (by kernel_rfl) hf with ⟨hcs, _⟩ | ⟨x, l, c, zs, hcs, _, hl, hm, hz, _, hcell, hwz⟩
    · simp [Value.cells] at hcs
      obtain ⟨rfl, rfl, rfl⟩ := hcs
      exact ⟨Nat.le_refl _, Nat.zero_le _, fun i hi => absurd hi (Nat.not_lt_zero _)⟩
    · simp [Value.cells] at hcs
      obtain ⟨rfl, rfl, rfl⟩ := hcs
      have hzl : zs.length = cap0 := by simpa using hz
      refine ⟨hl, hm, fun i hi => ?_⟩
      obtain ⟨b, off, rfl, hc⟩ := ints_at hcell (by omega)
      have hci := hc i (by omega)
      have hmem : zs.getD i 0 ∈ zs := by
        rw [List.getD_eq_getElem?_getD, List.getElem?_eq_getElem (by omega)]
        exact List.getElem_mem _
      have hbd := bounds_u8 (hwz _ hmem)
      refine ⟨b, off, (zs.getD i 0).toNat, rfl, World.block_lt_of_cell? W ⟨b, off + i, none⟩ hci, by omega, ?_⟩
      rw [hci]
      have : ((zs.getD i 0).toNat : Int) = zs.getD i 0 := Int.toNat_of_nonneg hbd.1
      rw [this]
  rw [MakeChecks.laidMetH_plain _ _ _ (by kernel_rfl)] at hL
  have hsp : LT W ∧ SP W ∧ NS W := all3_of_laid hL
  clear hA0 hval0
  refine (numbers_any a0 len0 cap0 W w0 hsp).mono fun e W' ⟨he, bel⟩ => ?_
  subst he
  have hlt1 : 0 < W.heap.size := cell_lt hsp.2.1.1.1
  have hlt2 : 2 < W.heap.size := block_lt hsp.1
  have hlt3 : 1 < W.heap.size := cell_lt hsp.2.2.1
  obtain rfl := Option.some.inj (gSigns.symm.trans hg)
  obtain rfl := Option.some.inj (tSigns.symm.trans ht)
  obtain rfl := Option.some.inj (gTens.symm.trans hg2)
  obtain rfl := Option.some.inj (tTens.symm.trans ht2)
  obtain rfl := Option.some.inj (gSteps.symm.trans hg3)
  obtain rfl := Option.some.inj (tSteps.symm.trans ht3)
  have hdx0 : DataW.trod enc Tryz.prog W 0 (fun _ => true) true fuel 138 cs.toList = some (d, p') := hd
  have hvx0 : W.var? Tryz.prog "loop.example/g00007/impl.signPairs" = some cs := hvar
  have hltx0 : ∀ x ∈ p', x.block < W.heap.size := DataW.trod_lt fuel _ _ _ hdx0
  obtain ⟨fl0, hq0⟩ := Below.trod laidOut (by kernel_rfl) (of_decide_eq_true (by kernel_rfl)) (v := .agg cs) (⟨fuel, by simpa [Value.cells] using hdx0⟩ : DataW.Trod enc Tryz.prog W 0 (fun _ => true) true 138 (.agg cs) d p') bel hltx0
  have hz0 : DataW.trod enc Tryz.prog W' 0 (fun b => decide (b < W.heap.size)) true fl0 138 cs.toList = some (d, p') := by simpa [Value.cells] using hq0
  have hdx1 : DataW.trod enc Tryz.prog W 0 (fun _ => true) true fuel2 167 cs2.toList = some (d2, p2) := hd2
  have hvx1 : W.var? Tryz.prog "loop.example/g00007/impl.limbTens" = some cs2 := hvar2
  have hltx1 : ∀ x ∈ p2, x.block < W.heap.size := DataW.trod_lt fuel2 _ _ _ hdx1
  obtain ⟨fl1, hq1⟩ := Below.trod laidOut (by kernel_rfl) (of_decide_eq_true (by kernel_rfl)) (v := .agg cs2) (⟨fuel2, by simpa [Value.cells] using hdx1⟩ : DataW.Trod enc Tryz.prog W 0 (fun _ => true) true 167 (.agg cs2) d2 p2) bel hltx1
  have hz1 : DataW.trod enc Tryz.prog W' 0 (fun b => decide (b < W.heap.size)) true fl1 167 cs2.toList = some (d2, p2) := by simpa [Value.cells] using hq1
  have hdx2 : DataW.trod enc Tryz.prog W 0 (fun _ => true) true fuel3 151 cs3.toList = some (d3, p3) := hd3
  have hvx2 : W.var? Tryz.prog "loop.example/g00007/impl.noSteps" = some cs3 := hvar3
  have hltx2 : ∀ x ∈ p3, x.block < W.heap.size := DataW.trod_lt fuel3 _ _ _ hdx2
  obtain ⟨fl2, hq2⟩ := Below.trod laidOut (by kernel_rfl) (of_decide_eq_true (by kernel_rfl)) (v := .agg cs3) (⟨fuel3, by simpa [Value.cells] using hdx2⟩ : DataW.Trod enc Tryz.prog W 0 (fun _ => true) true 151 (.agg cs3) d3 p3) bel hltx2
  have hz2 : DataW.trod enc Tryz.prog W' 0 (fun b => decide (b < W.heap.size)) true fl2 151 cs3.toList = some (d3, p3) := by simpa [Value.cells] using hq2
  have hv3 := trodVars_mk1 (enc := enc) (spare := fun b => decide (b < W.heap.size)) gSteps tSteps (var?_below bel gSteps hlt3 hvx2) hz2
  have hv2 : DataW.TrodVars enc Tryz.prog W' (fun b => decide (b < W.heap.size)) ["loop.example/g00007/impl.limbTens", "loop.example/g00007/impl.noSteps"] [d2, d3] (MemPlace.row ⟨2, 0, none⟩ cs2.size ++ p2 ++ (MemPlace.row ⟨1, 0, none⟩ cs3.size ++ p3)) :=
    ⟨_, _, cs2, fl1, p2, _, gTens, tTens, var?_below bel gTens hlt2 hvx1, hz1, hv3, rfl⟩
  have hv' : DataW.TrodVars enc Tryz.prog W' (fun b => decide (b < W.heap.size)) ["loop.example/g00007/impl.signPairs", "loop.example/g00007/impl.limbTens", "loop.example/g00007/impl.noSteps"] [d, d2, d3] (MemPlace.row ⟨0, 0, none⟩ cs.size ++ p' ++ (MemPlace.row ⟨2, 0, none⟩ cs2.size ++ p2 ++ (MemPlace.row ⟨1, 0, none⟩ cs3.size ++ p3))) :=
    ⟨_, _, cs, fl0, p', _, gSigns, tSigns, var?_below bel gSigns hlt1 hvx0, hz0, hv2, rfl⟩
  exact ⟨_, rfl, _, _, _, [], _, _, hW', trodAll_mk1 (shut_bool Tryz.underlying4 _), (trodAll_cons_mk (Below.trod laidOut (by kernel_rfl) (of_decide_eq_true (by kernel_rfl)) k0 bel lt0) trodAll_mk0), hv', bel.frame _, fun h => by cases h⟩

theorem over : Rows.fnNumbersRow.holds Tryz.pinned (OpenSpec.ofChange Rows.fnNumbersSpec) :=
  OpenClaim.holds_of_wide 3 Tryz.f3 rfl rfl rfl rfl rfl rfl rfl ⟨rfl, rfl, rfl, rfl, rfl⟩ rfl rfl rfl rfl rfl (by kernel_rfl) Tryz.func3 (by kernel_rfl)
    (of_decide_eq_true (by kernel_rfl)) (by unfold Func.isWrapper; first | (rw [if_pos (by decide +kernel)]; kernel_rfl) | (rw [if_neg (by decide +kernel)]; exact ⟨rfl, rfl⟩))
    (fun os started H enc _ => lifted os started H enc)
theorem plain (f : FuncId) (fn : Func) (hf : Tryz.pinned.checked.prog.funcNamed "loop.example/g00007/laws.FnNumbers" = some f) (hfn : Tryz.pinned.checked.prog.funcs[f]? = some fn) :
    false = Tryz.pinned.checked.prog.looks [] ∧ ∀ (j : Nat) t, fn.params[j]? = some t → Tryz.pinned.checked.prog.wantsStandIn t = false := by
  obtain rfl : f = 3 := Option.some.inj ((show Tryz.prog.funcNamed "loop.example/g00007/laws.FnNumbers" = some 3 by kernel_rfl).symm.trans hf) |>.symm
  obtain rfl : fn = Tryz.f3 := (Option.some.inj (Tryz.func3.symm.trans hfn)).symm
  refine ⟨by kernel_rfl, fun j t ht => ?_⟩
  rw [Tryz.params3] at ht
  obtain rfl : t = 22 := by simpa using Array.mem_of_getElem? ht
  exact (show Tryz.prog.wantsStandIn 22 = false by kernel_rfl)
end Go.Proofs.YtpjnglcojamfmaaGreatDoor.fnNumbers
namespace Go.Proofs.YtpjnglcojamfmaaGreatDoor
theorem fnNumbers_holds : Rows.FnNumbersCardSaid :=
  Claim7.holds_tied_plain_at .later [] _ _ _ _ fnNumbers.over (fun _ h => by cases h) (by kernel_rfl) (fun _ h => by cases h) fnNumbers_row_tie rfl ⟨rfl, rfl⟩ (by kernel_rfl) rfl fnNumbers.plain (by kernel_rfl)
#print axioms fnNumbers_holds
end Go.Proofs.YtpjnglcojamfmaaGreatDoor
