import Derived.Test.YtdngpnlbhadbpaaDoorTrBx
import Derived.Deep.QuietTactic
import Derived.BigQuiet
import Derived.Laws.Bits64b
namespace Go.Proofs.YtdngpnlbhadbpaaDoor
open Go.ChangeShapes Go.WideShapes Go.ChangeAt Go.RowKit
theorem ret_int {k : IntKind} {a b : Int} (h : a = b) : Ending.returned (.int k a) = .returned (.int k b) := by rw [h]
/-- But for block g the world is as it was. -/
structure Bar (g : Nat) (w w' : World) : Prop where
  os : w'.os = w.os
  tape : w'.tape = w.tape
  output : w'.output = w.output
  size : w.heap.size ≤ w'.heap.size
  block : ∀ k, k < w.heap.size → k ≠ g → w'.heap[k]? = w.heap[k]?
theorem Bar.refl (g : Nat) (w : World) : Bar g w w := ⟨rfl, rfl, rfl, Nat.le_refl _, fun _ _ _ => rfl⟩
theorem Bar.trans {g : Nat} {a b c : World} (h : Bar g a b) (k : Bar g b c) : Bar g a c :=
  ⟨k.os.trans h.os, k.tape.trans h.tape, k.output.trans h.output, Nat.le_trans h.size k.size, fun i hi hg => (k.block i (Nat.lt_of_lt_of_le hi h.size) hg).trans (h.block i hi hg)⟩
theorem Bar.of {g : Nat} {w w' : World} (h : Below w.heap.size w w') : Bar g w w' := ⟨h.os, h.tape, h.output, h.size, fun k hk _ => h.block k hk⟩
theorem Bar.below {g N : Nat} {w w' : World} (h : Bar g w w') (hN : N ≤ g) (hw : N ≤ w.heap.size) : Below N w w' := ⟨h.os, h.tape, h.output, h.size, fun k hk => h.block k (by omega) (by omega)⟩
theorem Bar.setCell (g i : Nat) (w : World) (v : Value) : Bar g w (w.setCell ⟨g, i, none⟩ v) :=
  ⟨rfl, rfl, rfl, by simp [World.setCell], fun k _ hk => Below.heap_setCell _ _ _ _ hk⟩
theorem Bar.drew {g : Nat} {w w' : World} (h : Bar g w w') : Bar g w w'.drew := ⟨h.os, h.tape, h.output, h.size, h.block⟩
theorem Bar.cell {g : Nat} {w w' : World} (h : Bar g w w') {p : Addr} (hp : p.block < w.heap.size) (hg : p.block ≠ g) : w'.cell? p = w.cell? p := by
  unfold World.cell?
  rw [h.block p.block hp hg]
/-- The bytes that choices are read from: they lie below N. -/
def CodeIn (g N : Nat) (w : World) (a : Option Addr) (n cap : Nat) : Prop := n ≤ cap ∧ cap ≤ maxLen ∧ ∀ i, i < n → ∃ b off v : Nat, a = some ⟨b, off, none⟩ ∧ b ≠ g ∧ b < N ∧ v < 256 ∧ w.cell? ⟨b, off + i, none⟩ = some (.int .u8 v)
theorem CodeIn.bar {g N : Nat} {w w' : World} {a : Option Addr} {n cap : Nat} (h : CodeIn g N w a n cap) (hN : N ≤ w.heap.size) (hb : Bar g w w') : CodeIn g N w' a n cap :=
  ⟨h.1, h.2.1, fun i hi => by
    obtain ⟨b, off, v, e, h1, h2, h3, h4⟩ := h.2.2 i hi
    exact ⟨b, off, v, e, h1, h2, h3, (hb.cell (p := ⟨b, off + i, none⟩) (Nat.lt_of_lt_of_le h2 hN) h1).trans h4⟩⟩
/-- A cursor over bytes; it, and they, lie below N. -/
def IsCur (g N : Nat) (w : World) (k : Nat) : Prop := g < N ∧ N ≤ w.heap.size ∧ ∃ a n cap sd, Bx w g [.slice a n cap, .int .i64 (k : Nat), .int .u64 (sd : Nat)] ∧ sd < 18446744073709551616 ∧ CodeIn g N w a n cap
theorem IsCur.below {g N k : Nat} {w w' : World} (h : IsCur g N w k) (hb : Below N w w') : IsCur g N w' k := by
  obtain ⟨h1, h2, a, n, cap, sd, hx, hs, hc⟩ := h
  refine ⟨h1, Nat.le_trans h2 hb.size, a, n, cap, sd, hx.below h1 hb, hs, hc.1, hc.2.1, fun i hi => ?_⟩
  obtain ⟨b, off, v, e, e1, e2, e3, e4⟩ := hc.2.2 i hi
  exact ⟨b, off, v, e, e1, e2, e3, (hb.cell (p := ⟨b, off + i, none⟩) e2).trans e4⟩
theorem wrap_u64_ex (x : Int) : ∃ m : Nat, IntKind.u64.wrap x = (m : Int) ∧ m < 18446744073709551616 := by
  refine ⟨(IntKind.u64.wrap x).toNat, ?_, ?_⟩ <;> simp only [IntKind.wrap_u64] <;> omega
theorem shr_and (m : Nat) (hm : m < 18446744073709551616) : ∃ r : Nat, wrap64 (bits BinOp.and IntKind.u64 ((m : Int) / 1099511627776) 255) = (r : Int) ∧ r < 256 := by
  have e1 : ((m : Int) / 1099511627776) = ((m / 1099511627776 : Nat) : Int) := by omega
  have e2 := bits_and_u64_nat (m / 1099511627776) 255 (by omega) (by decide)
  have h3 : (m / 1099511627776) &&& 255 ≤ 255 := Nat.and_le_right
  obtain ⟨x, hx⟩ : ∃ x : Nat, (m / 1099511627776) &&& 255 = x := ⟨_, rfl⟩
  rw [hx] at h3 e2
  refine ⟨x, ?_, by omega⟩
  have e4 : ((255 : Nat) : Int) = 255 := rfl
  rw [e4] at e2
  rw [e1, e2]
  unfold wrap64
  omega
theorem cur_step {g N k : Nat} {w : World} {a : Option Addr} {n cap sd : Nat} (hgN : g < N) (hN : N ≤ w.heap.size) (hx : Bx w g [.slice a n cap, .int .i64 (k : Nat), .int .u64 (sd : Nat)]) (hc : CodeIn g N w a n cap) (m1 m2 m : Nat) (hm : m < 18446744073709551616) :
    IsCur g N ((((w.drewN m1).setCell ⟨g, 1, none⟩ (.int .i64 ((k : Int) + 1))).setCell ⟨g, 2, none⟩ (.int .u64 (m : Nat))).drewN m2) (k + 1) ∧ Bar g w ((((w.drewN m1).setCell ⟨g, 1, none⟩ (.int .i64 ((k : Int) + 1))).setCell ⟨g, 2, none⟩ (.int .u64 (m : Nat))).drewN m2) := by
  have hb : Bar g w ((((w.drewN m1).setCell ⟨g, 1, none⟩ (.int .i64 ((k : Int) + 1))).setCell ⟨g, 2, none⟩ (.int .u64 (m : Nat))).drewN m2) := by
    have h0 : Bar g w (w.drewN m1) := ⟨rfl, rfl, rfl, Nat.le_refl _, fun _ _ _ => rfl⟩
    have h1 := (h0.trans (Bar.setCell g 1 _ (.int .i64 ((k : Int) + 1)))).trans (Bar.setCell g 2 _ (.int .u64 (m : Nat)))
    exact ⟨h1.os, h1.tape, h1.output, h1.size, h1.block⟩
  refine ⟨⟨hgN, Nat.le_trans hN hb.size, a, n, cap, m, ?_, hm, hc.bar hN hb⟩, hb⟩
  have h0 : Bx (w.drewN m1) g [.slice a n cap, .int .i64 (k : Nat), .int .u64 (sd : Nat)] := by obtain ⟨t, h⟩ := hx; exact ⟨t, h⟩
  have h1 := (h0.set 1 (.int .i64 ((k : Int) + 1))).set 2 (.int .u64 (m : Nat))
  obtain ⟨t, h⟩ := h1
  exact ⟨t, h⟩
set_option maxRecDepth 100000 in
set_option maxHeartbeats 1000000 in
theorem next_any (g N k : Nat) (w : World) (h : IsCur g N w k) (hk : k ≤ 1000000000000) :
    Calls Tryd.prog 52 #[.pointer (some ⟨g, 0, none⟩)] w fun e w' => ∃ r : Nat, e = .returned (.int .i64 (r : Nat)) ∧ r < 256 ∧ IsCur g N w' (k + 1) ∧ Bar g w w' := by
  obtain ⟨hgN, hNw, a, n, cap, sd, hx, hsd, hc⟩ := h
  have HGN := hidG (And.intro hgN hNw)
  clear hgN hNw
  have HX := hidG hx
  have HC := hidG hc
  have hcap := hc.2.1
  have hn := hc.1
  unfold maxLen at hcap
  have k0 := hx.cell 0
  have k1 := hx.cell 1
  have k2 := hx.cell 2
  simp only [List.getElem?_cons_zero, List.getElem?_cons_succ] at k0 k1 k2
  have f1 := hx.frozen 1
  have f2 := hx.frozen 2
  by_cases hlt : k < n
  · obtain ⟨b, off, v, ea, hbg, hbs, hv, hcell⟩ := hc.2.2 k hlt
    subst ea
    have z : decide ((k : Int) < (n : Int)) = true := by rw [decide_eq_true_iff]; omega
    have z2 : decide ((k : Int) + 1 ≤ (n : Int)) = true := by rw [decide_eq_true_iff]; omega
    clear hx hc
    go_enter Tryd.func52, Tryd.ntmps52
    go_wp2
    go_quiet (fail)
    go_wp2
    go_quiet (fail)
    go_wp2
    go_quiet (fail)
    go_wp2
    obtain ⟨m, hm, hml⟩ := wrap_u64_ex (IntKind.u64.wrap (IntKind.u64.wrap (↑sd * 6364136223846793005) + ↑v) + 1442695040888963407)
    rw [hm]
    go_ret
    obtain ⟨h1, h2⟩ := cur_step HGN.out.1 HGN.out.2 HX.out HC.out _ _ m hml
    exact ⟨v, rfl, hv, h1, h2⟩
  · have z : decide ((k : Int) < (n : Int)) = false := by rw [decide_eq_false_iff_not]; omega
    have z2 : decide ((k : Int) + 1 ≤ (n : Int)) = false := by rw [decide_eq_false_iff_not]; omega
    clear hx hc
    go_enter Tryd.func52, Tryd.ntmps52
    go_wp2
    go_quiet (fail)
    go_wp2
    go_quiet (fail)
    go_wp2
    obtain ⟨m, hm, hml⟩ := wrap_u64_ex (IntKind.u64.wrap (IntKind.u64.wrap (↑sd * 6364136223846793005)) + 1442695040888963407)
    obtain ⟨r, hr, hrl⟩ := shr_and m hml
    rw [hm, hr]
    go_ret
    obtain ⟨h1, h2⟩ := cur_step HGN.out.1 HGN.out.2 HX.out HC.out _ _ m hml
    exact ⟨r, rfl, hrl, h1, h2⟩
set_option maxRecDepth 100000 in
set_option maxHeartbeats 1000000 in
theorem pick_any (g N k n : Nat) (w : World) (h : IsCur g N w k) (hk : k ≤ 100000000000) (hn : 0 < n) (hn2 : n ≤ 65536) :
    Calls Tryd.prog 30 #[.pointer (some ⟨g, 0, none⟩), .int .i64 (n : Nat)] w fun e w' => ∃ r k' : Nat, e = .returned (.int .i64 (r : Nat)) ∧ r < n ∧ k' ≤ k + 2 ∧ IsCur g N w' k' ∧ Bar g w w' := by
  have HC := hidG h
  clear h
  by_cases h1 : n ≤ 1
  · have z : decide ((n : Int) ≤ 1) = true := by rw [decide_eq_true_iff]; omega
    go_enter Tryd.func30, Tryd.ntmps30
    go_wp2
    go_ret
    exact ⟨0, k, rfl, hn, by omega, HC.out, Bar.refl _ _⟩
  · have z : decide ((n : Int) ≤ 1) = false := by rw [decide_eq_false_iff_not]; omega
    by_cases h2 : 200 < n
    · have z2 : decide (200 < (n : Int)) = true := by rw [decide_eq_true_iff]; omega
      go_enter Tryd.func30, Tryd.ntmps30
      go_wp2_with fail
      refine (next_any g N k _ HC.out (by omega)).mono ?_
      rintro e w1 ⟨r1, rfl, hr1, hc1, hb1⟩
      have HC1 := hidG hc1
      have HB1 := hidG hb1
      clear hc1 hb1
      go_wp2_with fail
      refine (next_any g N (k + 1) _ HC1.out (by omega)).mono ?_
      rintro e w2 ⟨r2, rfl, hr2, hc2, hb2⟩
      have HC2 := hidG hc2
      have HB2 := hidG (HB1.out.trans hb2)
      clear hc2 hb2
      go_wp2
      go_ret
      exact ⟨(r1 * 256 + r2) % n, k + 1 + 1, ret_int (by push_cast; rfl), Nat.mod_lt _ hn, by omega, HC2.out, HB2.out⟩
    · have z2 : decide (200 < (n : Int)) = false := by rw [decide_eq_false_iff_not]; omega
      go_enter Tryd.func30, Tryd.ntmps30
      go_wp2_with fail
      refine (next_any g N k _ HC.out (by omega)).mono ?_
      rintro e w1 ⟨r1, rfl, hr1, hc1, hb1⟩
      have HC1 := hidG hc1
      have HB1 := hidG hb1
      clear hc1 hb1
      go_wp2
      go_ret
      exact ⟨r1 % n, k + 1, ret_int (by push_cast; rfl), Nat.mod_lt _ hn, by omega, HC1.out, HB1.out⟩
theorem Bar.grownBy {g : Nat} {w w' : World} (h : Bar g w w') : w.grownBy w' (some g) := ⟨h.os, h.tape, h.output, h.size, fun k hk hne => h.block k hk (fun e => hne (by rw [e]))⟩
theorem Bar.then {g : Nat} {w a b : World} (h : Bar g w a) (k : Below w.heap.size a b) : Bar g w b :=
  ⟨k.os.trans h.os, k.tape.trans h.tape, k.output.trans h.output, Nat.le_trans h.size k.size, fun i hi hg => (k.block i hi).trans (h.block i hi hg)⟩
theorem Bx.bar {W W' : World} {b g : Nat} {l : List Value} (h : Bx W b l) (hb : Bar g W W') (hg : b ≠ g) : Bx W' b l := by
  obtain ⟨t, h⟩ := h
  exact ⟨t, (hb.block b (Array.getElem?_eq_some_iff.1 h).1 hg).trans h⟩
/-- Bytes that came in. -/
def CodeArg (w : World) (a : Option Addr) (n cap : Nat) : Prop := n ≤ cap ∧ cap ≤ maxLen ∧ ∀ i, i < n → ∃ b off v : Nat, a = some ⟨b, off, none⟩ ∧ b < w.heap.size ∧ v < 256 ∧ w.cell? ⟨b, off + i, none⟩ = some (.int .u8 v)
theorem CodeArg.below {w w' : World} {a : Option Addr} {n cap : Nat} (h : CodeArg w a n cap) (hb : Below w.heap.size w w') : CodeArg w' a n cap :=
  ⟨h.1, h.2.1, fun i hi => by
    obtain ⟨b, off, v, e, h1, h2, h3⟩ := h.2.2 i hi
    exact ⟨b, off, v, e, Nat.lt_of_lt_of_le h1 hb.size, h2, (hb.cell (p := ⟨b, off + i, none⟩) h1).trans h3⟩⟩
theorem cur_new {w : World} {a : Option Addr} {n cap : Nat} (h : CodeArg w a n cap) (ty : TypeId) : IsCur w.heap.size (w.heap.size + 1) (w.alloc (.cells #[.slice a n cap, .int .i64 0, .int .u64 0] ty)) 0 := by
  refine ⟨Nat.lt_succ_self _, by rw [World.size_alloc]; exact Nat.le_refl _, a, n, cap, 0, bx_new w _ ty, by decide, h.1, h.2.1, fun i hi => ?_⟩
  obtain ⟨b, off, v, e, h1, h2, h3⟩ := h.2.2 i hi
  exact ⟨b, off, v, e, by omega, by omega, h2, ((below_alloc w _).cell (p := ⟨b, off + i, none⟩) h1).trans h3⟩
theorem cur_end {w W w' : World} (h : Below w.heap.size w W) (hb : Bar w.heap.size W w') : Below w.heap.size w w' := h.trans (hb.below (Nat.le_refl _) h.size)
end Go.Proofs.YtdngpnlbhadbpaaDoor
