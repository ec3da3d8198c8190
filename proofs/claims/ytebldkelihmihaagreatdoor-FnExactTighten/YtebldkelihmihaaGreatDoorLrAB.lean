import Derived.Test.YtebldkelihmihaaGreatDoorRows
import Derived.WalkKit
import Derived.WalkSpells
import Derived.ProofKit
import Derived.OpenShut
import Derived.ShutString
import Derived.Below
import Derived.Lib.Strings
import Derived.Lib.IndexBytes
import Derived.Maps.AppendAt
import Derived.Deep.RegionWith
import Derived.Deep.RegionLaw
import Derived.Deep.RegionHeld3
import Derived.HandedShaped
import Derived.Shelf.Vars
import Derived.Deep.Slices
namespace Go.Proofs.YtebldkelihmihaaGreatDoor.L
open Go.ChangeShapes Go.WideShapes Go.ChangeAt Go.RowKit
theorem hidG {p : Prop} (h : p) : Hid p := h
theorem below_alloc (w : World) (o : Obj) : Below w.heap.size w (w.alloc o) := (Below.refl _ _).alloc (Nat.le_refl _) o
def Bx (W : World) (g : Nat) (l : List Value) : Prop := ∃ ty, W.heap[g]? = some (.cells l.toArray ty (0, 0))
theorem Bx.lt {W : World} {g : Nat} {l : List Value} (h : Bx W g l) : g < W.heap.size := by
  obtain ⟨t, h⟩ := h
  exact (Array.getElem?_eq_some_iff.1 h).1
theorem Bx.cell {W : World} {g : Nat} {l : List Value} (h : Bx W g l) (i : Nat) : W.cell? ⟨g, i, none⟩ = l[i]? := by
  obtain ⟨t, h⟩ := h
  simp [World.cell?, h]
theorem Bx.frozen {W : World} {g : Nat} {l : List Value} (h : Bx W g l) (i : Nat) : W.frozen? ⟨g, i, none⟩ = false := by
  obtain ⟨t, h⟩ := h
  simp [World.frozen?, h]
theorem Bx.set {W : World} {g : Nat} {l : List Value} (h : Bx W g l) (i : Nat) (v : Value) : Bx (W.setCell ⟨g, i, none⟩ v) g (l.set i v) := by
  obtain ⟨t, h⟩ := h
  refine ⟨t, ?_⟩
  obtain ⟨hlt, hk⟩ := Array.getElem?_eq_some_iff.1 h
  show (W.heap.modify g _)[g]? = _
  rw [Array.getElem?_eq_getElem (by rw [Array.size_modify]; exact hlt), Array.getElem_modify_self, hk]
  simp
theorem Bx.below {W W' : World} {g N : Nat} {l : List Value} (h : Bx W g l) (hN : g < N) (hb : Below N W W') : Bx W' g l := by
  obtain ⟨t, h⟩ := h
  exact ⟨t, (hb.block g hN).trans h⟩
theorem Bx.alloc {W : World} {g : Nat} {l : List Value} (h : Bx W g l) (o : Obj) : Bx (W.alloc o) g l := h.below h.lt (below_alloc W o)
theorem bx_new (W : World) (l : List Value) (ty : TypeId) : Bx (W.alloc (.cells l.toArray ty)) W.heap.size l := ⟨ty, Array.getElem?_push_size⟩
theorem Bx.c3 {W : World} {g : Nat} {v0 v1 v2 : Value} {r : List Value} (h : Bx W g (v0 :: v1 :: v2 :: r)) : W.cell? ⟨g, 0, none⟩ = some v0 ∧ W.cell? ⟨g, 1, none⟩ = some v1 ∧ W.cell? ⟨g, 2, none⟩ = some v2 := ⟨h.cell 0, h.cell 1, h.cell 2⟩
def strOf (l : List UInt8) : ByteArray := ⟨l.toArray⟩
theorem strOf_toList (l : List UInt8) : (strOf l).data.toList = l := by simp [strOf]
def StrsAt (w : World) (v : Value) (L : List (List UInt8)) : Prop :=
  ∃ p c, v = .slice p L.length c ∧ L.length ≤ c ∧ c ≤ maxLen ∧ (L = [] ∨ ∃ b, p = some ⟨b, 0, none⟩ ∧ b < w.heap.size ∧ ∀ i (h : i < L.length), w.cell? ⟨b, i, none⟩ = some (.string (strOf L[i])))
theorem StrsAt.below {w w' : World} {v : Value} {L : List (List UInt8)} (h : StrsAt w v L) (hb : Below w.heap.size w w') : StrsAt w' v L := by
  obtain ⟨p, c, rfl, h1, h2, h3⟩ := h
  refine ⟨p, c, rfl, h1, h2, ?_⟩
  rcases h3 with h3 | ⟨b, e, hl, hc⟩
  · exact .inl h3
  · exact .inr ⟨b, e, Nat.lt_of_lt_of_le hl hb.size, fun i hi => (hb.cell (p := ⟨b, i, none⟩) hl).trans (hc i hi)⟩
def strsC (L : List (List UInt8)) : List Value := L.map (fun x => .string (strOf x))
theorem own_other' {W W' : World} {base : Nat} {e : TypeId} {sz : Nat} {v : Value} {n : Nat} {xs : List Value} (h : W.ownsRow base e sz v n xs) (hk : ∀ g, v.ownBlock = some g → W'.heap[g]? = W.heap[g]?) : W'.ownsRow base e sz v n xs := by
  refine ⟨h.1, ?_⟩
  rcases h.2 with h0 | ⟨g, cap, cur, rfl, h1, h2, h3⟩
  · exact .inl h0
  · exact .inr ⟨g, cap, cur, rfl, h1, (hk g rfl).trans h2, h3⟩
theorem info_str0 : (Tryz.prog.info? 9).map (fun i => (i.zero, i.size, i.bytes)) = some (some (.string ⟨#[]⟩), 1, 16) := by kernel_rfl
theorem info_str : ∃ i : TypeInfo, Tryz.prog.info? 9 = some i ∧ i.zero = some (.string ⟨#[]⟩) ∧ i.size = 1 ∧ i.bytes = 16 := info_parts info_str0
theorem own_base {w : World} {base : Nat} {e : TypeId} {size n : Nat} {v : Value} {xs : List Value} (h : w.ownsRow base e size v n xs) : ∀ g, v.ownBlock = some g → base ≤ g := by
  intro g hg
  rcases h.2 with ⟨rfl, _⟩ | ⟨g', cap, cur, rfl, hb, _⟩
  · cases hg
  · cases hg; exact hb
theorem own_lower {w : World} {base base' : Nat} {e : TypeId} {size : Nat} {v : Value} {n : Nat} {xs : List Value} (h : w.ownsRow base e size v n xs) (hb : base' ≤ base) : w.ownsRow base' e size v n xs := by
  refine ⟨h.1, ?_⟩
  rcases h.2 with h0 | ⟨g, cap, cur, e, hg, h3⟩
  · exact .inl h0
  · exact .inr ⟨g, cap, cur, e, Nat.le_trans hb hg, h3⟩
theorem own_read {w : World} {base g n cap size : Nat} {e : TypeId} {xs : List Value} (h : w.ownsRow base e size (.slice (some ⟨g, 0, none⟩) n cap) n xs) {j : Nat} {u : Value} (hu : xs[j]? = some u) : w.cell? ⟨g, j, none⟩ = some u := by
  rcases h.2 with ⟨h0, _⟩ | ⟨g', cap', cur, hv, _, hb, _, _, _, ht⟩
  · cases h0
  · cases hv
    rw [cell_of_row w g j cur e (0, 0) hb]
    rw [← ht, List.getElem?_take] at hu
    split at hu
    · simpa using hu
    · cases hu
theorem own_row {w : World} {base n size : Nat} {e : TypeId} {v : Value} {xs : List Value} (h : w.ownsRow base e size v n xs) : ∃ p c, v = .slice p n c ∧ n ≤ c ∧ c ≤ maxLen ∧ (n = 0 ∨ ∃ g, p = some ⟨g, 0, none⟩ ∧ g < w.heap.size) := by
  have hl := h.lt
  rcases h.2 with ⟨rfl, rfl⟩ | ⟨g, cap, cur, rfl, _, _, h1, h2, _⟩
  · exact ⟨none, 0, rfl, Nat.le_refl _, Nat.zero_le _, .inl rfl⟩
  · exact ⟨some ⟨g, 0, none⟩, cap, rfl, h1, h2, .inr ⟨g, rfl, (hl g rfl).2⟩⟩
theorem strs_at {w : World} {base : Nat} {v : Value} {L : List (List UInt8)} (h : w.ownsRow base 9 1 v L.length (strsC L)) : StrsAt w v L := by
  obtain ⟨p, c, rfl, h1, h2, h3⟩ := own_row h
  refine ⟨p, c, rfl, h1, h2, ?_⟩
  rcases h3 with h3 | ⟨g, rfl, hg⟩
  · exact .inl (List.eq_nil_of_length_eq_zero h3)
  · exact .inr ⟨g, rfl, hg, fun i hi => own_read h (by unfold strsC; rw [List.getElem?_map, List.getElem?_eq_getElem hi]; rfl)⟩
theorem up_alloc {w w' : World} (h : Below w.heap.size w w') (o : Obj) : Below w.heap.size w (w'.alloc o) := h.alloc h.size _
theorem strOf_size (x : List UInt8) : (strOf x).size = x.length := by show x.toArray.size = _; simp
def ArgStrs (w : World) (v : Value) (L : List (List UInt8)) : Prop :=
  ∃ a c, v = .slice a L.length c ∧ L.length ≤ c ∧ c ≤ maxLen ∧ (∀ s ∈ L, s.length ≤ maxLen) ∧ (L = [] ∨ ∃ b off, a = some ⟨b, off, none⟩ ∧ b < w.heap.size ∧ ∀ i (h : i < L.length), w.cell? ⟨b, off + i, none⟩ = some (.string (strOf L[i])))
theorem ArgStrs.below {w w' : World} {v : Value} {L : List (List UInt8)} (h : ArgStrs w v L) (hb : Below w.heap.size w w') : ArgStrs w' v L := by
  obtain ⟨a, c, rfl, h1, h2, h3, h4⟩ := h
  refine ⟨a, c, rfl, h1, h2, h3, ?_⟩
  rcases h4 with h | ⟨b, off, rfl, hlt, hA⟩
  · exact .inl h
  · exact .inr ⟨b, off, rfl, Nat.lt_of_lt_of_le hlt hb.size, fun i hi => (hb.cell (p := ⟨b, off + i, none⟩) hlt).trans (hA i hi)⟩
def SmallS (L : List (List UInt8)) : Prop := L.length ≤ 1048576 ∧ ∀ s ∈ L, s.length ≤ 1048576
def Sized (P : Prop) (w : World) (e : Ending) (w' : World) : Prop := (e = .returned (.int .i64 (-1)) ∨ ∃ z : Nat, z ≤ 1048576 ∧ e = .returned (.int .i64 (z : Nat)) ∧ P) ∧ Below w.heap.size w w'
set_option maxRecDepth 100000 in
set_option maxHeartbeats 4000000 in
theorem szStringS_any (v : Value) (L : List (List UInt8)) (z0 : Nat) (w : World) (h : ArgStrs w v L) (hz0 : z0 ≤ 1048576) :
    Calls Tryz.prog 38 #[v, .int .i64 (z0 : Nat)] w (Sized (SmallS L) w) := by
  obtain ⟨a, c, rfl, hc, hc2, hts, hA⟩ := h
  unfold maxLen at hc2
  have HA := hidG hA
  have HTS := hidG hts
  clear hA hts
  by_cases hl : z0 < L.length
  · have y : decide ((z0 : Int) - (L.length : Int) < 0) = true := by rw [decide_eq_true_iff]; omega
    go_enter Tryz.func38, Tryz.ntmps38
    go_wp2_with fail
    go_ret
    exact ⟨.inl rfl, Below.refl _ _⟩
  · have y : decide ((z0 : Int) - (L.length : Int) < 0) = false := by rw [decide_eq_false_iff_not]; omega
    go_enter Tryz.func38, Tryz.ntmps38
    go_wp2_with fail
    go_loopw [1, 5] (fun zv iv wr => ∃ (i z : Nat), i ≤ L.length ∧ z ≤ 1048576 ∧ zv = .int .i64 (z : Nat) ∧ iv = .int .i64 (i : Nat) ∧ (∀ j (h : j < L.length), j < i → L[j].length ≤ 1048576) ∧ w = wr) (fun _ iv _ => L.length - (intOf iv).toNat)
    case atStart => exact ⟨0, z0 - L.length, Nat.zero_le _, by omega, by go_num, rfl, fun j _ h => absurd h (Nat.not_lt_zero _), rfl⟩
    case round =>
      obtain ⟨i, z, hi, hz, rfl, rfl, hsm, rfl⟩ := hrel
      have HSM := hidG hsm
      clear hsm
      by_cases hlt : i < L.length
      · obtain ⟨b, off, rfl, hb, hA⟩ : ∃ b off, a = some ⟨b, off, none⟩ ∧ b < w.heap.size ∧ ∀ i (h : i < L.length), w.cell? ⟨b, off + i, none⟩ = some (.string (strOf L[i])) := by
          rcases HA.out with h | h
          · rw [h] at hlt; exact absurd hlt (Nat.not_lt_zero _)
          · exact h
        have k0 := hA i hlt
        have htx := HTS.out _ (List.getElem_mem hlt)
        unfold maxLen at htx
        have hs := strOf_size L[i]
        obtain ⟨s, hsd⟩ : ∃ s, strOf L[i] = s := ⟨_, rfl⟩
        rw [hsd] at k0 hs
        have HSZ := hidG hs
        have htx' : (s.size : Int) ≤ 9223372036854775807 := by rw [hs]; omega
        clear hA hsd htx hs
        by_cases hzs : z < s.size
        · have y2 : decide ((z : Int) - (s.size : Int) < 0) = true := by rw [decide_eq_true_iff]; omega
          go_wp2_with fail
          go_ret
          exact ⟨.inl rfl, Below.refl _ _⟩
        · have y2 : decide ((z : Int) - (s.size : Int) < 0) = false := by rw [decide_eq_false_iff_not]; omega
          go_wp2_with fail
          go_roundw
          case rel =>
            refine ⟨i + 1, z - s.size, by omega, by omega, by go_num, by go_num, fun j hj hji => ?_, trivial⟩
            by_cases e : j = i
            · subst e; have := HSZ.out; omega
            · exact HSM.out j hj (by omega)
          case measure => simp [intOf]; omega
      · have hie : i = L.length := by omega
        subst hie
        go_wp2_with fail
        go_ret
        refine ⟨.inr ⟨z, hz, rfl, by omega, fun s hs => ?_⟩, Below.refl _ _⟩
        obtain ⟨j, hj, rfl⟩ := List.getElem_of_mem hs
        exact HSM.out j hj hj
theorem row_below {w w' : World} {base : Nat} {e : TypeId} {s : Nat} {v : Value} {n : Nat} {xs : List Value} (h : w.ownsRow base e s v n xs) (hb : Below w.heap.size w w') : w'.ownsRow base e s v n xs := own_other' h (fun g hg => hb.block g (h.lt g hg).2)
theorem row_at {w : World} {base g n cap s : Nat} {e : TypeId} {xs : List Value} (h : w.ownsRow base e s (.slice (some ⟨g, 0, none⟩) n cap) n xs) (j : Nat) (hj : j < n * s) : ∃ x, w.cell? ⟨g, j, none⟩ = some x := by
  rw [h.cellAt j hj]
  exact ⟨_, List.getElem?_eq_getElem (by have := h.1; omega)⟩
theorem laid1_next {α : Type} {f : α → Value} {xs : List Value} {L : List α} {i : Nat} (hx : xs.length = L.length) (h : ∀ j (hj : j < L.length), j < i → xs[j]? = some (f L[j])) (hi : i < L.length) : ∀ j (hj : j < L.length), j < i + 1 → (xs.set i (f L[i]))[j]? = some (f L[j]) := by
  intro j hj hji
  by_cases e : j = i
  · subst e
    rw [List.getElem?_set_self (by omega)]
  · rw [List.getElem?_set_ne (by omega)]
    exact h j hj (by omega)
theorem laid1_all {α : Type} {f : α → Value} {xs : List Value} {L : List α} (hx : xs.length = L.length) (h : ∀ j (hj : j < L.length), j < L.length → xs[j]? = some (f L[j])) : xs = L.map f := by
  refine List.ext_getElem? fun j => ?_
  by_cases hj : j < L.length
  · rw [h j hj hj, List.getElem?_map, List.getElem?_eq_getElem hj]; rfl
  · rw [List.getElem?_eq_none (by omega), List.getElem?_eq_none (by rw [List.length_map]; omega)]
set_option maxRecDepth 100000 in
set_option maxHeartbeats 4000000 in
theorem toStringS_any (v : Value) (L : List (List UInt8)) (w : World) (h : ArgStrs w v L) (hs : SmallS L) :
    Calls Tryz.prog 43 #[v] w fun e w' => ∃ g c, e = .returned (.slice (some ⟨g, 0, none⟩) L.length c) ∧ w'.ownsRow w.heap.size 9 1 (.slice (some ⟨g, 0, none⟩) L.length c) L.length (strsC L) ∧ Below w.heap.size w w' := by
  obtain ⟨a, c, rfl, hc, hc2, -, hA⟩ := h
  unfold maxLen at hc2
  obtain ⟨i0, hinf, hz0, hz1, hz2⟩ := info_str
  have hnl := hs.1
  have HA := hidG hA
  clear hA hs
  go_enter Tryz.func43, Tryz.ntmps43
  go_wp2_with (at_make; refine wpList_make_full _ rfl _ _ 42 rfl w.heap.size 9 i0 (.string ⟨#[]⟩) 1 Tryz.underlying42 hinf hz0 hz1 .i64 .i64 _ _ L.length rfl rfl (by simp) (by simp) (by rw [hz2]; omega) (by unfold maxLen; omega) (Nat.le_refl _) ?_)
  intro w1 hown1 hgr
  have HB1 : Hid (Below w.heap.size w w1) := (Below.refl _ _).grown hgr (Nat.le_refl _) (fun k e => by cases e)
  have HO1 := hidG hown1
  clear hown1 hgr
  go_wp2_with fail
  go_loopw [4] (fun iv wr => ∃ (i : Nat) (xs : List Value), i ≤ L.length ∧ iv = .int .i64 i ∧ (∀ j (hj : j < L.length), j < i → xs[j]? = some (.string (strOf L[j]))) ∧ wr.ownsRow w.heap.size 9 1 (.slice (some ⟨w.heap.size, 0, none⟩) L.length L.length) L.length xs ∧ Below w.heap.size w wr) (fun iv _ => L.length - (intOf iv).toNat)
  case atStart => exact ⟨0, _, Nat.zero_le _, rfl, fun j _ h => absurd h (Nat.not_lt_zero _), HO1.out, HB1.out⟩
  case round =>
    obtain ⟨i, xs, hi, rfl, hlaid, hown, hB⟩ := hrel
    have HB := hidG hB
    have HLD := hidG hlaid
    have HXL : Hid (xs.length = L.length) := by have := hown.1; unfold Hid; omega
    by_cases hlt : i < L.length
    · obtain ⟨b, off, rfl, hb, hA⟩ : ∃ b off, a = some ⟨b, off, none⟩ ∧ b < w.heap.size ∧ ∀ i (h : i < L.length), w.cell? ⟨b, off + i, none⟩ = some (.string (strOf L[i])) := by
        rcases HA.out with h | h
        · rw [h] at hlt; exact absurd hlt (Nat.not_lt_zero _)
        · exact h
      have k0 := hA i hlt
      rw [← hB.cell (p := ⟨b, off + i, none⟩) hb] at k0
      have HNX := hidG (laid1_next (f := fun x => .string (strOf x)) HXL.out hlaid hlt)
      obtain ⟨x0, e0⟩ := row_at hown i (by omega)
      have g0 := hown.frozenAt i
      have hw4 := (hown.stored i (.string (strOf L[i]))).1
      have HW4 := hidG hw4
      clear hlaid hown hB hA hw4
      go_wp2_with fail
      go_roundw
      case rel => exact ⟨i + 1, _, by omega, by go_num, HNX.out, HW4.out, HB.out.setCell (p := ⟨w.heap.size, i, none⟩) (Nat.le_refl _) _⟩
      case measure => simp [intOf]; omega
    · have hie : i = L.length := by omega
      subst hie
      have HO := hidG hown
      clear hown hB hlaid
      go_wp2_with fail
      go_ret
      have e := laid1_all (f := fun x => .string (strOf x)) HXL.out HLD.out
      have ho := HO.out
      rw [e] at ho
      exact ⟨_, _, rfl, ho, HB.out⟩
theorem box2 (w : World) (A B : List Value) (ta tb : TypeId) : ∃ W2, (w.alloc (.cells A.toArray ta)).alloc (.cells B.toArray tb) = W2 ∧ Below w.heap.size w W2 ∧ Bx W2 w.heap.size A ∧ Bx W2 (w.heap.size + 1) B ∧ W2.heap.size = w.heap.size + 1 + 1 := by
  refine ⟨_, rfl, up_alloc (below_alloc _ _) _, (bx_new w A ta).alloc _, ?_, by simp⟩
  have h := bx_new (w.alloc (.cells A.toArray ta)) B tb
  rwa [show (w.alloc (.cells A.toArray ta)).heap.size = w.heap.size + 1 by simp] at h
theorem box3 (w : World) (A B C : List Value) (ta tb tc : TypeId) : ∃ W3, ((w.alloc (.cells A.toArray ta)).alloc (.cells B.toArray tb)).alloc (.cells C.toArray tc) = W3 ∧ Below w.heap.size w W3 ∧ Bx W3 w.heap.size A ∧ Bx W3 (w.heap.size + 1) B ∧ Bx W3 (w.heap.size + 1 + 1) C ∧ W3.heap.size = w.heap.size + 1 + 1 + 1 := by
  obtain ⟨W2, h2, hb, x1, x2, hs⟩ := box2 w A B ta tb
  refine ⟨_, rfl, ?_, ?_, ?_, ?_, ?_⟩
  · rw [h2]; exact up_alloc hb _
  · rw [h2]; exact x1.alloc _
  · rw [h2]; exact x2.alloc _
  · rw [h2, ← hs]; exact bx_new W2 C tc
  · rw [h2, World.size_alloc, hs]
set_option maxRecDepth 100000 in
set_option maxHeartbeats 4000000 in
theorem eqStringS_same (v1 v2 : Value) (L : List (List UInt8)) (w : World) (h1 : StrsAt w v1 L) (h2 : StrsAt w v2 L) :
    Calls Tryz.prog 52 #[v1, v2] w fun e w' => e = .returned (.bool true) ∧ Below w.heap.size w w' := by
  obtain ⟨p1, c1, rfl, l1, m1, r1⟩ := h1
  obtain ⟨p2, c2, rfl, l2, m2, r2⟩ := h2
  unfold maxLen at m1 m2
  have H1 := hidG r1
  have H2 := hidG r2
  clear r1 r2
  go_enter Tryz.func52, Tryz.ntmps52
  go_wp2_with fail
  go_loopw [5] (fun iv wr => ∃ i : Nat, i ≤ L.length ∧ iv = .int .i64 (i : Nat) ∧ Below w.heap.size w wr) (fun iv _ => L.length - (intOf iv).toNat)
  case atStart => exact ⟨0, Nat.zero_le _, rfl, Below.refl _ _⟩
  case round =>
    obtain ⟨i, hi, rfl, hB⟩ := hrel
    have HB := hidG hB
    by_cases hlt : i < L.length
    · obtain ⟨b1, rfl, hb1, hc1⟩ : ∃ b, p1 = some ⟨b, 0, none⟩ ∧ b < w.heap.size ∧ ∀ i (h : i < L.length), w.cell? ⟨b, i, none⟩ = some (.string (strOf L[i])) := by
        rcases H1.out with h | h
        · rw [h] at hlt; exact absurd hlt (Nat.not_lt_zero _)
        · exact h
      obtain ⟨b2, rfl, hb2, hc2⟩ : ∃ b, p2 = some ⟨b, 0, none⟩ ∧ b < w.heap.size ∧ ∀ i (h : i < L.length), w.cell? ⟨b, i, none⟩ = some (.string (strOf L[i])) := by
        rcases H2.out with h | h
        · rw [h] at hlt; exact absurd hlt (Nat.not_lt_zero _)
        · exact h
      have k0 := hc1 i hlt
      have m0 := hc2 i hlt
      rw [← hB.cell (p := ⟨b1, i, none⟩) hb1] at k0
      rw [← hB.cell (p := ⟨b2, i, none⟩) hb2] at m0
      generalize strOf L[i] = s at k0 m0
      clear hB hc1 hc2
      go_wp2_with fail
      go_region
      all_goals
        have HB2 := hidG HB.out.drew
        go_wp2_with fail
        go_roundw
        case rel => exact ⟨i + 1, by omega, by go_num, HB2.out⟩
        case measure => simp [intOf]; omega
    · clear hB
      go_wp2_with fail
      go_ret
      exact ⟨rfl, HB.out⟩
structure Lr where
  cs : List (List UInt8)
  st : Bool
  bd : List UInt8
def ArgRows (w : World) (v : Value) (F : List Lr) : Prop :=
  ∃ a c, v = .slice a F.length c ∧ F.length ≤ c ∧ c ≤ maxLen ∧ (∀ f ∈ F, f.bd.length ≤ maxLen) ∧ (F = [] ∨ ∃ b off, a = some ⟨b, off, none⟩ ∧ b < w.heap.size ∧ ∀ i (h : i < F.length), (∃ va, w.cell? ⟨b, off + i * 3, none⟩ = some va ∧ ArgStrs w va F[i].cs) ∧ w.cell? ⟨b, off + i * 3 + 1, none⟩ = some (.bool F[i].st) ∧ w.cell? ⟨b, off + i * 3 + 2, none⟩ = some (.string (strOf F[i].bd)))
theorem ArgRows.below {w w' : World} {v : Value} {F : List Lr} (h : ArgRows w v F) (hb : Below w.heap.size w w') : ArgRows w' v F := by
  obtain ⟨a, c, rfl, h1, h2, h3, h4⟩ := h
  refine ⟨a, c, rfl, h1, h2, h3, ?_⟩
  rcases h4 with h | ⟨b, off, rfl, hlt, hA⟩
  · exact .inl h
  · refine .inr ⟨b, off, rfl, Nat.lt_of_lt_of_le hlt hb.size, fun i hi => ?_⟩
    obtain ⟨⟨va, k0, ha⟩, k1, k2⟩ := hA i hi
    exact ⟨⟨va, (hb.cell (p := ⟨b, off + i * 3, none⟩) hlt).trans k0, ha.below hb⟩, (hb.cell (p := ⟨b, off + i * 3 + 1, none⟩) hlt).trans k1, (hb.cell (p := ⟨b, off + i * 3 + 2, none⟩) hlt).trans k2⟩
def RowsAt (w : World) (v : Value) (F : List Lr) : Prop :=
  ∃ p c, v = .slice p F.length c ∧ F.length ≤ c ∧ c ≤ maxLen ∧ (F = [] ∨ ∃ b, p = some ⟨b, 0, none⟩ ∧ b < w.heap.size ∧ ∀ i (h : i < F.length), (∃ va, w.cell? ⟨b, i * 3, none⟩ = some va ∧ StrsAt w va F[i].cs) ∧ w.cell? ⟨b, i * 3 + 1, none⟩ = some (.bool F[i].st) ∧ w.cell? ⟨b, i * 3 + 2, none⟩ = some (.string (strOf F[i].bd)))
theorem RowsAt.below {w w' : World} {v : Value} {F : List Lr} (h : RowsAt w v F) (hb : Below w.heap.size w w') : RowsAt w' v F := by
  obtain ⟨a, c, rfl, h1, h2, h4⟩ := h
  refine ⟨a, c, rfl, h1, h2, ?_⟩
  rcases h4 with h | ⟨b, rfl, hlt, hA⟩
  · exact .inl h
  · refine .inr ⟨b, rfl, Nat.lt_of_lt_of_le hlt hb.size, fun i hi => ?_⟩
    obtain ⟨⟨va, k0, ha⟩, k1, k2⟩ := hA i hi
    exact ⟨⟨va, (hb.cell (p := ⟨b, i * 3, none⟩) hlt).trans k0, ha.below hb⟩, (hb.cell (p := ⟨b, i * 3 + 1, none⟩) hlt).trans k1, (hb.cell (p := ⟨b, i * 3 + 2, none⟩) hlt).trans k2⟩
def SmallR (f : Lr) : Prop := SmallS f.cs ∧ f.bd.length ≤ 1048576
set_option maxRecDepth 100000 in
set_option maxHeartbeats 4000000 in
theorem szLinRow_any (f : Lr) (va : Value) (z0 : Nat) (w : World) (h : ArgStrs w va f.cs) (hs : f.bd.length ≤ maxLen) (hz0 : z0 ≤ 1048576) :
    Calls Tryz.prog 20 #[.agg #[va, .bool f.st, .string (strOf f.bd)], .int .i64 (z0 : Nat)] w (Sized (SmallR f) w) := by
  have H := hidG h
  obtain ⟨a, c, rfl, -, -, -, -⟩ := h
  have e2 := strOf_size f.bd
  obtain ⟨s2, h2⟩ : ∃ s, strOf f.bd = s := ⟨_, rfl⟩
  rw [h2] at e2 ⊢
  unfold maxLen at hs
  have x2 : (s2.size : Int) ≤ 9223372036854775807 := by omega
  have HE2 := hidG e2
  clear h2 e2
  obtain ⟨W1, hW1⟩ : ∃ W1, w.alloc (.cells #[.slice a f.cs.length c, .bool f.st, .string s2] 44) = W1 := ⟨_, rfl⟩
  have HB1 : Hid (Below w.heap.size w W1) := by unfold Hid; rw [← hW1]; exact below_alloc _ _
  have HX1 : Hid (Bx W1 w.heap.size [.slice a f.cs.length c, .bool f.st, .string s2]) := by unfold Hid; rw [← hW1]; exact bx_new w _ _
  have HW1 := hidG hW1
  clear hW1
  go_enter Tryz.func20, Tryz.ntmps20
  go_wp2_with fail
  rw [HW1.out]
  refine (szStringS_any _ f.cs z0 W1 (H.out.below HB1.out) hz0).mono ?_
  rintro e w2 ⟨(rfl | ⟨z2, hz2, rfl, hsm⟩), hb2⟩
  · have HB2 : Hid (Below w.heap.size w w2) := HB1.out.trans (hb2.mono HB1.out.size)
    clear hb2
    go_wp2_with fail
    go_ret
    exact ⟨.inl rfl, HB2.out⟩
  · have HB2 : Hid (Below w.heap.size w w2) := HB1.out.trans (hb2.mono HB1.out.size)
    have HSM := hidG hsm
    obtain ⟨b0, b1, b2⟩ := (HX1.out.below HX1.out.lt hb2).c3
    have y2 : decide ((z2 : Int) < 0) = false := by rw [decide_eq_false_iff_not]; omega
    clear hb2 hsm
    by_cases g2 : z2 < s2.size
    · have y3 : decide ((z2 : Int) - (s2.size : Int) < 0) = true := by rw [decide_eq_true_iff]; omega
      go_wp2_with fail
      go_ret
      exact ⟨.inl rfl, HB2.out⟩
    · have y3 : decide ((z2 : Int) - (s2.size : Int) < 0) = false := by rw [decide_eq_false_iff_not]; omega
      go_wp2_with fail
      go_ret
      exact ⟨.inr ⟨z2 - s2.size, by omega, by go_num, HSM.out, by have := HE2.out; omega⟩, HB2.out⟩
set_option maxRecDepth 100000 in
set_option maxHeartbeats 4000000 in
theorem szLinRowS_any (v : Value) (F : List Lr) (z0 : Nat) (w : World) (h : ArgRows w v F) (hz0 : z0 ≤ 1048576) :
    Calls Tryz.prog 5 #[v, .int .i64 (z0 : Nat)] w (Sized (F.length ≤ 1048576 ∧ ∀ f ∈ F, SmallR f) w) := by
  obtain ⟨a, c, rfl, hc, hc2, hts, hA⟩ := h
  unfold maxLen at hc2
  have HA := hidG hA
  have HTS := hidG hts
  clear hA hts
  by_cases hl : z0 < F.length
  · have y : decide ((z0 : Int) - (F.length : Int) < 0) = true := by rw [decide_eq_true_iff]; omega
    go_enter Tryz.func5, Tryz.ntmps5
    go_wp2_with fail
    go_ret
    exact ⟨.inl rfl, Below.refl _ _⟩
  · have y : decide ((z0 : Int) - (F.length : Int) < 0) = false := by rw [decide_eq_false_iff_not]; omega
    go_enter Tryz.func5, Tryz.ntmps5
    go_wp2_with fail
    go_loopw [1, 5] (fun zv iv wr => ∃ (i z : Nat), i ≤ F.length ∧ z ≤ 1048576 ∧ zv = .int .i64 (z : Nat) ∧ iv = .int .i64 (i : Nat) ∧ (∀ j (h : j < F.length), j < i → SmallR F[j]) ∧ Below w.heap.size w wr) (fun _ iv _ => F.length - (intOf iv).toNat)
    case atStart => exact ⟨0, z0 - F.length, Nat.zero_le _, by omega, by go_num, rfl, fun j _ h => absurd h (Nat.not_lt_zero _), Below.refl _ _⟩
    case round =>
      obtain ⟨i, z, hi, hz, rfl, rfl, hsm, hB⟩ := hrel
      have HSM := hidG hsm
      have HB := hidG hB
      clear hsm
      by_cases hlt : i < F.length
      · obtain ⟨b, off, rfl, hb, hA⟩ : ∃ b off, a = some ⟨b, off, none⟩ ∧ b < w.heap.size ∧ ∀ i (h : i < F.length), (∃ va, w.cell? ⟨b, off + i * 3, none⟩ = some va ∧ ArgStrs w va F[i].cs) ∧ w.cell? ⟨b, off + i * 3 + 1, none⟩ = some (.bool F[i].st) ∧ w.cell? ⟨b, off + i * 3 + 2, none⟩ = some (.string (strOf F[i].bd)) := by
          rcases HA.out with h | h
          · rw [h] at hlt; exact absurd hlt (Nat.not_lt_zero _)
          · exact h
        obtain ⟨⟨va, k0, hva⟩, k1, k2⟩ := hA i hlt
        rw [← hB.cell (p := ⟨b, off + i * 3, none⟩) hb] at k0
        rw [← hB.cell (p := ⟨b, off + i * 3 + 1, none⟩) hb] at k1
        rw [← hB.cell (p := ⟨b, off + i * 3 + 2, none⟩) hb] at k2
        have htx := HTS.out _ (List.getElem_mem hlt)
        obtain ⟨f, hf⟩ : ∃ f, F[i] = f := ⟨_, rfl⟩
        have HF := hidG hf
        rw [hf] at k1 k2 hva htx
        have HVA := hidG (hva.below hB)
        have HTX := hidG htx
        obtain ⟨pa, ca, rfl, -, -, -, -⟩ := hva
        clear hf hB hA htx
        go_wp2_with fail
        refine (szLinRow_any f _ z _ HVA.out HTX.out hz).mono ?_
        rintro e w2 ⟨(rfl | ⟨z2, hz2, rfl, hs2⟩), hb2⟩
        · have HB2 : Hid (Below w.heap.size w w2) := HB.out.trans (hb2.mono HB.out.size)
          clear hb2
          go_wp2_with fail
          go_ret
          exact ⟨.inl rfl, HB2.out⟩
        · have HB2 : Hid (Below w.heap.size w w2) := HB.out.trans (hb2.mono HB.out.size)
          have HS2 := hidG hs2
          have y2 : decide ((z2 : Int) < 0) = false := by rw [decide_eq_false_iff_not]; omega
          clear hb2 hs2
          go_wp2_with fail
          go_roundw
          case rel =>
            refine ⟨i + 1, z2, by omega, hz2, by go_num, by go_num, fun j hj hji => ?_, HB2.out⟩
            by_cases e : j = i
            · subst e; rw [HF.out]; exact HS2.out
            · exact HSM.out j hj (by omega)
          case measure => simp [intOf]; omega
      · have hie : i = F.length := by omega
        subst hie
        clear hB
        go_wp2_with fail
        go_ret
        refine ⟨.inr ⟨z, hz, rfl, by omega, fun s hs => ?_⟩, HB.out⟩
        obtain ⟨j, hj, rfl⟩ := List.getElem_of_mem hs
        exact HSM.out j hj hj
theorem info_row0 : (Tryz.prog.info? 50).map (fun i => (i.zero, i.size, i.bytes)) = some (some (.agg #[.slice none 0 0, .bool false, .string ⟨#[]⟩]), 3, 48) := by kernel_rfl
theorem info_row : ∃ i : TypeInfo, Tryz.prog.info? 50 = some i ∧ i.zero = some (.agg #[.slice none 0 0, .bool false, .string ⟨#[]⟩]) ∧ i.size = 3 ∧ i.bytes = 48 := info_parts info_row0
set_option maxRecDepth 100000 in
set_option maxHeartbeats 4000000 in
theorem toLinRow_any (f : Lr) (va : Value) (w : World) (h : ArgStrs w va f.cs) (hs : SmallS f.cs) :
    Calls Tryz.prog 25 #[.agg #[va, .bool f.st, .string (strOf f.bd)]] w fun e w' => ∃ g c, e = .returned (.agg #[.slice (some ⟨g, 0, none⟩) f.cs.length c, .bool f.st, .string (strOf f.bd)]) ∧ w'.ownsRow w.heap.size 9 1 (.slice (some ⟨g, 0, none⟩) f.cs.length c) f.cs.length (strsC f.cs) ∧ Below w.heap.size w w' := by
  have H := hidG h
  obtain ⟨a, c, rfl, -, -, -, -⟩ := h
  go_enter Tryz.func25, Tryz.ntmps25
  go_wp2_with fail
  obtain ⟨W3, hW3, hb3, x1, x2, x3, hs3⟩ := box3 w [.slice a f.cs.length c, .bool f.st, .string (strOf f.bd)] [.slice none 0 0, .bool false, .string ⟨#[]⟩] [.slice none 0 0, .bool false, .string ⟨#[]⟩] 44 50 50
  rw [hW3]
  clear hW3
  have HB3 := hidG hb3
  have HX1 := hidG x1
  have HX2 := hidG x2
  have HX3 := hidG x3
  have HS3 := hidG hs3
  clear hb3 x1 x2 x3 hs3
  refine (toStringS_any _ f.cs W3 (H.out.below HB3.out) hs).mono ?_
  rintro e w4 ⟨g4, c4, rfl, hown4, hb4⟩
  have HB4 : Hid (Below w.heap.size w w4) := HB3.out.trans (hb4.mono HB3.out.size)
  have HO4 := hidG hown4
  have HY1 := hidG (HX1.out.below HX1.out.lt hb4)
  have HY2 := hidG (HX2.out.below HX2.out.lt hb4)
  have HY3 := hidG (HX3.out.below HX3.out.lt hb4)
  clear hown4 hb4
  obtain ⟨b0, b1, b2⟩ := HY1.out.c3
  obtain ⟨d0, d1, d2⟩ := HY2.out.c3
  obtain ⟨q0, q1, q2⟩ := HY3.out.c3
  have f0 := HY2.out.frozen 0
  have f1 := HY2.out.frozen 1
  have f2 := HY2.out.frozen 2
  have r0 := HY3.out.frozen 0
  have r1 := HY3.out.frozen 1
  have r2 := HY3.out.frozen 2
  go_wp2_with fail
  clear b0 b1 b2 d0 d1 d2 q0 q1 q2 f0 f1 f2 r0 r1 r2
  generalize hU : Value.slice (some ⟨g4, 0, none⟩) f.cs.length c4 = U
  have n12 : w.heap.size + 1 ≠ w.heap.size + 1 + 1 := by omega
  have hA : Bx (((w4.setCell ⟨w.heap.size + 1 + 1, 0, none⟩ U).setCell ⟨w.heap.size + 1 + 1, 1, none⟩ (.bool f.st)).setCell ⟨w.heap.size + 1 + 1, 2, none⟩ (.string (strOf f.bd))) (w.heap.size + 1) [.slice none 0 0, .bool false, .string ⟨#[]⟩] := by
    obtain ⟨ty, hh⟩ := HY2.out
    refine ⟨ty, ?_⟩
    rw [Below.heap_setCell _ ⟨w.heap.size + 1 + 1, 2, none⟩ _ _ n12, Below.heap_setCell _ ⟨w.heap.size + 1 + 1, 1, none⟩ _ _ n12, Below.heap_setCell _ ⟨w.heap.size + 1 + 1, 0, none⟩ _ _ n12]
    exact hh
  have hE := ((hA.set 0 U).set 1 (.bool f.st)).set 2 (.string (strOf f.bd))
  have hBE := (((((HB4.out.setCell (p := ⟨w.heap.size + 1 + 1, 0, none⟩) (by show _ ≤ w.heap.size + 1 + 1; omega) U).setCell (p := ⟨w.heap.size + 1 + 1, 1, none⟩) (by show _ ≤ w.heap.size + 1 + 1; omega) (.bool f.st)).setCell (p := ⟨w.heap.size + 1 + 1, 2, none⟩) (by show _ ≤ w.heap.size + 1 + 1; omega) (.string (strOf f.bd))).setCell (p := ⟨w.heap.size + 1, 0, none⟩) (by show _ ≤ w.heap.size + 1; omega) U).setCell (p := ⟨w.heap.size + 1, 1, none⟩) (by show _ ≤ w.heap.size + 1; omega) (.bool f.st)).setCell (p := ⟨w.heap.size + 1, 2, none⟩) (by show _ ≤ w.heap.size + 1; omega) (.string (strOf f.bd))
  have hO : ((((((w4.setCell ⟨w.heap.size + 1 + 1, 0, none⟩ U).setCell ⟨w.heap.size + 1 + 1, 1, none⟩ (.bool f.st)).setCell ⟨w.heap.size + 1 + 1, 2, none⟩ (.string (strOf f.bd))).setCell ⟨w.heap.size + 1, 0, none⟩ U).setCell ⟨w.heap.size + 1, 1, none⟩ (.bool f.st)).setCell ⟨w.heap.size + 1, 2, none⟩ (.string (strOf f.bd))).ownsRow w.heap.size 9 1 (.slice (some ⟨g4, 0, none⟩) f.cs.length c4) f.cs.length (strsC f.cs) := by
    refine own_lower (own_other' HO4.out (fun g hg => ?_)) HB3.out.size
    have hgb := own_base HO4.out g hg
    have hs3 := HS3.out
    have n1 : g ≠ w.heap.size + 1 := by omega
    have n2 : g ≠ w.heap.size + 1 + 1 := by omega
    rw [Below.heap_setCell _ ⟨w.heap.size + 1, 2, none⟩ _ _ n1, Below.heap_setCell _ ⟨w.heap.size + 1, 1, none⟩ _ _ n1, Below.heap_setCell _ ⟨w.heap.size + 1, 0, none⟩ _ _ n1, Below.heap_setCell _ ⟨w.heap.size + 1 + 1, 2, none⟩ _ _ n2, Below.heap_setCell _ ⟨w.heap.size + 1 + 1, 1, none⟩ _ _ n2, Below.heap_setCell _ ⟨w.heap.size + 1 + 1, 0, none⟩ _ _ n2]
  obtain ⟨e0, e1, e2⟩ := hE.c3
  refine bodyPost_ret (v := .agg #[U, .bool f.st, .string (strOf f.bd)]) ?_ rfl ⟨g4, c4, by rw [hU], hO, hBE⟩
  clear hA hE hBE hO
  simp [results, Tryz.results25, go_sem, e0, e1, e2]
def LaidR (wr : World) (N : Nat) (xs : List Value) (F : List Lr) (i : Nat) : Prop :=
  ∀ j (h : j < F.length), j < i → (∃ va, xs[j * 3]? = some va ∧ wr.ownsRow N 9 1 va F[j].cs.length (strsC F[j].cs)) ∧ xs[j * 3 + 1]? = some (.bool F[j].st) ∧ xs[j * 3 + 2]? = some (.string (strOf F[j].bd))
theorem LaidR.next {wr wr' : World} {N : Nat} {xs : List Value} {F : List Lr} {i : Nat} (hx : xs.length = F.length * 3) (h : LaidR wr N xs F i) (hi : i < F.length) {va : Value} (hk : ∀ k, N ≤ k → k < wr.heap.size → wr'.heap[k]? = wr.heap[k]?) (hva : wr'.ownsRow N 9 1 va F[i].cs.length (strsC F[i].cs)) :
    LaidR wr' N (((xs.set (i * 3) va).set (i * 3 + 1) (.bool F[i].st)).set (i * 3 + 2) (.string (strOf F[i].bd))) F (i + 1) := by
  intro j hj hji
  by_cases e : j = i
  · subst e
    refine ⟨⟨va, ?_, hva⟩, ?_, ?_⟩
    · rw [List.getElem?_set_ne (by omega), List.getElem?_set_ne (by omega), List.getElem?_set_self (by omega)]
    · rw [List.getElem?_set_ne (by omega), List.getElem?_set_self (by simp; omega)]
    · rw [List.getElem?_set_self (by simp; omega)]
  · obtain ⟨⟨vb, h0, hb⟩, h1, h2⟩ := h j hj (by omega)
    refine ⟨⟨vb, ?_, own_other' hb (fun g hg => hk g (own_base hb g hg) (hb.lt g hg).2)⟩, ?_, ?_⟩ <;> rw [List.getElem?_set_ne (by omega), List.getElem?_set_ne (by omega), List.getElem?_set_ne (by omega)] <;> assumption
set_option maxRecDepth 100000 in
set_option maxHeartbeats 4000000 in
theorem eqLinRow_same (f : Lr) (va vb : Value) (w : World) (h1 : StrsAt w va f.cs) (h2 : StrsAt w vb f.cs) :
    Calls Tryz.prog 28 #[.agg #[va, .bool f.st, .string (strOf f.bd)], .agg #[vb, .bool f.st, .string (strOf f.bd)]] w fun e w' => e = .returned (.bool true) ∧ Below w.heap.size w w' := by
  have H1 := hidG h1
  have H2 := hidG h2
  obtain ⟨p1, c1, rfl, -, -, -⟩ := h1
  obtain ⟨p2, c2, rfl, -, -, -⟩ := h2
  generalize strOf f.bd = s2
  go_enter Tryz.func28, Tryz.ntmps28
  go_wp2_with fail
  obtain ⟨W2, hW2, hb2, x1, x2, -⟩ := box2 w [.slice p1 f.cs.length c1, .bool f.st, .string s2] [.slice p2 f.cs.length c2, .bool f.st, .string s2] 50 50
  have HB2 := hidG hb2
  have HX1 := hidG x1
  have HX2 := hidG x2
  rw [hW2]
  clear hW2 hb2 x1 x2
  refine (eqStringS_same _ _ f.cs W2 (H1.out.below HB2.out) (H2.out.below HB2.out)).mono ?_
  rintro e w3 ⟨rfl, hb3⟩
  have HB3 : Hid (Below w.heap.size w w3) := HB2.out.trans (hb3.mono HB2.out.size)
  obtain ⟨b0, b1, b2⟩ := (HX1.out.below HX1.out.lt hb3).c3
  obtain ⟨d0, d1, d2⟩ := (HX2.out.below HX2.out.lt hb3).c3
  clear hb3
  cases f.st
  all_goals
   go_wp2_with fail
   go_ret
   exact ⟨rfl, HB3.out⟩
set_option maxRecDepth 100000 in
set_option maxHeartbeats 4000000 in
theorem eqLinRowS_same (v1 v2 : Value) (L : List Lr) (w : World) (h1 : RowsAt w v1 L) (h2 : RowsAt w v2 L) :
    Calls Tryz.prog 10 #[v1, v2] w fun e w' => e = .returned (.bool true) ∧ Below w.heap.size w w' := by
  obtain ⟨p1, c1, rfl, l1, m1, r1⟩ := h1
  obtain ⟨p2, c2, rfl, l2, m2, r2⟩ := h2
  unfold maxLen at m1 m2
  have H1 := hidG r1
  have H2 := hidG r2
  clear r1 r2
  go_enter Tryz.func10, Tryz.ntmps10
  go_wp2_with fail
  go_loopw [5] (fun iv wr => ∃ i : Nat, i ≤ L.length ∧ iv = .int .i64 (i : Nat) ∧ Below w.heap.size w wr) (fun iv _ => L.length - (intOf iv).toNat)
  case atStart => exact ⟨0, Nat.zero_le _, rfl, Below.refl _ _⟩
  case round =>
    obtain ⟨i, hi, rfl, hB⟩ := hrel
    have HB := hidG hB
    by_cases hlt : i < L.length
    · obtain ⟨b1, rfl, hb1, hc1⟩ : ∃ b, p1 = some ⟨b, 0, none⟩ ∧ b < w.heap.size ∧ ∀ i (h : i < L.length), (∃ va, w.cell? ⟨b, i * 3, none⟩ = some va ∧ StrsAt w va L[i].cs) ∧ w.cell? ⟨b, i * 3 + 1, none⟩ = some (.bool L[i].st) ∧ w.cell? ⟨b, i * 3 + 2, none⟩ = some (.string (strOf L[i].bd)) := by
        rcases H1.out with h | h
        · rw [h] at hlt; exact absurd hlt (Nat.not_lt_zero _)
        · exact h
      obtain ⟨b2, rfl, hb2, hc2⟩ : ∃ b, p2 = some ⟨b, 0, none⟩ ∧ b < w.heap.size ∧ ∀ i (h : i < L.length), (∃ va, w.cell? ⟨b, i * 3, none⟩ = some va ∧ StrsAt w va L[i].cs) ∧ w.cell? ⟨b, i * 3 + 1, none⟩ = some (.bool L[i].st) ∧ w.cell? ⟨b, i * 3 + 2, none⟩ = some (.string (strOf L[i].bd)) := by
        rcases H2.out with h | h
        · rw [h] at hlt; exact absurd hlt (Nat.not_lt_zero _)
        · exact h
      obtain ⟨⟨va, k0, hva⟩, k1, k2⟩ := hc1 i hlt
      obtain ⟨⟨vb, m0, hvb⟩, m1, m2⟩ := hc2 i hlt
      obtain ⟨f, hx⟩ : ∃ f, L[i] = f := ⟨_, rfl⟩
      rw [hx] at k1 k2 m1 m2 hva hvb
      have HVA := hidG hva
      have HVB := hidG hvb
      obtain ⟨pa, ca, rfl, -, -, -⟩ := hva
      obtain ⟨pb, cb, rfl, -, -, -⟩ := hvb
      have HCC : Hid (∀ W, Below w.heap.size w W → W.cell? ⟨b1, i * 3, none⟩ = some (.slice pa f.cs.length ca) ∧ W.cell? ⟨b1, i * 3 + 1, none⟩ = some (.bool f.st) ∧ W.cell? ⟨b1, i * 3 + 2, none⟩ = some (.string (strOf f.bd)) ∧ W.cell? ⟨b2, i * 3, none⟩ = some (.slice pb f.cs.length cb) ∧ W.cell? ⟨b2, i * 3 + 1, none⟩ = some (.bool f.st) ∧ W.cell? ⟨b2, i * 3 + 2, none⟩ = some (.string (strOf f.bd))) := fun W h => ⟨(h.cell (p := ⟨b1, i * 3, none⟩) hb1).trans k0, (h.cell (p := ⟨b1, i * 3 + 1, none⟩) hb1).trans k1, (h.cell (p := ⟨b1, i * 3 + 2, none⟩) hb1).trans k2, (h.cell (p := ⟨b2, i * 3, none⟩) hb2).trans m0, (h.cell (p := ⟨b2, i * 3 + 1, none⟩) hb2).trans m1, (h.cell (p := ⟨b2, i * 3 + 2, none⟩) hb2).trans m2⟩
      clear hB hc1 hc2 hx k0 k1 k2 m0 m1 m2
      have i1 : (i : Int) < (L.length : Int) := by omega
      go_wp2_with fail
      go_region_held3 (fun W => W.cell? ⟨b1, i * 3, none⟩ = some (.slice pa f.cs.length ca) ∧ W.cell? ⟨b1, i * 3 + 1, none⟩ = some (.bool f.st) ∧ W.cell? ⟨b1, i * 3 + 2, none⟩ = some (.string (strOf f.bd)) ∧ W.cell? ⟨b2, i * 3, none⟩ = some (.slice pb f.cs.length cb) ∧ W.cell? ⟨b2, i * 3 + 1, none⟩ = some (.bool f.st) ∧ W.cell? ⟨b2, i * 3 + 2, none⟩ = some (.string (strOf f.bd)))
        (first
          | exact HCC.out _ HB.out.drew
          | exact HCC.out _ (HB.out.drew.trans (hbe.mono HB.out.size)))
        ((go_at_call 28; refine (eqLinRow_same f _ _ _ (HVA.out.below HB.out.drew) (HVB.out.below HB.out.drew)).mono ?_; rintro e w2 ⟨rfl, hbe⟩))
      all_goals
        have HB2 : Hid (Below w.heap.size w w2) := HB.out.drew.trans (hbe.mono HB.out.size)
        clear hbe
        go_wp2_with fail
        go_roundw
        case rel => exact ⟨i + 1, by omega, by go_num, HB2.out⟩
        case measure => simp [intOf]; omega
    · clear hB
      go_wp2_with fail
      go_ret
      exact ⟨rfl, HB.out⟩
theorem strOf_data (s : ByteArray) : strOf s.data.toList = s := by simp [strOf]
theorem three_of {cs : List Value} (h : cs.length = 3) : ∃ v0 v1 v2, cs = [v0, v1, v2] := by
  match cs, h with
  | [v0, v1, v2], _ => exact ⟨v0, v1, v2, rfl⟩
theorem list_of {α : Type} {Q : Nat → α → Prop} : ∀ n : Nat, (∀ i, i < n → ∃ x, Q i x) → ∃ l : List α, l.length = n ∧ ∀ i (h : i < l.length), Q i l[i]
  | 0, _ => ⟨[], rfl, fun i h => absurd h (Nat.not_lt_zero _)⟩
  | n + 1, h => by
    obtain ⟨l, hl, hq⟩ := list_of n (fun i hi => h i (by omega))
    obtain ⟨x, hx⟩ := h n (by omega)
    refine ⟨l ++ [x], by simp [hl], fun i hi => ?_⟩
    by_cases e : i < l.length
    · rw [List.getElem_append_left e]; exact hq i e
    · have hi' : i = l.length := by simp at hi; omega
      subst hi'
      rw [List.getElem_append_right (Nat.le_refl _)]
      simp only [Nat.sub_self, List.getElem_cons_zero]
      rw [hl]; exact hx
theorem add0 (b off k : Nat) : (⟨b, off, none⟩ : Addr).add k = ⟨b, off + k, none⟩ := by simp [Addr.add]
set_option maxRecDepth 100000 in
theorem strs_of {H : Type} {enc : TypeId × Value → H} {W : World} {v : Value} {fuel : Nat} {x : DataW H × List MemPlace}
    (h : DataW.trod enc Tryz.prog W 0 (fun _ => true) true fuel 42 [v] = some x) : ∃ L, ArgStrs W v L := by
  rcases Go.Deep.open_slice Tryz.underlying42 h with ⟨hcs, _⟩ | ⟨A, l, c, m, n, D, Pl, hcs, _, hl, hm, hmm, _, hx⟩
  · simp only [List.cons.injEq, and_true] at hcs
    subst hcs
    exact ⟨[], _, _, rfl, Nat.zero_le _, Nat.zero_le _, fun s hs => (by cases hs), .inl rfl⟩
  · simp only [List.cons.injEq, and_true] at hcs
    subst hcs
    have hce : Tryz.prog.cellsOf 9 = 1 := by kernel_rfl
    simp only [if_true] at hmm
    rw [hce] at hx
    have each : ∀ i, i < l → ∃ s : List UInt8, W.cell? (A.add i) = some (.string (strOf s)) ∧ s.length ≤ maxLen := by
      intro i hi
      obtain ⟨cs, h1, h2⟩ := hx i (by omega)
      obtain ⟨_, hlen, hcell⟩ := World.cells?_some h1
      obtain ⟨s, e, _, hw⟩ := DataW.trod_string Tryz.underlying9 h2
      subst e
      have hc0 := hcell 0 (by decide)
      refine ⟨s.data.toList, ?_, Nat.le_trans (Nat.le_of_eq Array.length_toList) hw⟩
      rw [strOf_data]
      simpa [Addr.add] using hc0
    obtain ⟨L, hL, hq⟩ := list_of l each
    subst hL
    refine ⟨L, _, _, rfl, by omega, hm, fun s hs => ?_, ?_⟩
    · obtain ⟨j, hj, rfl⟩ := List.getElem_of_mem hs
      exact (hq j hj).2
    · by_cases h0 : L = []
      · exact .inl h0
      right
      have hpos : 0 < L.length := List.length_pos_iff.2 h0
      obtain ⟨b, off, spot⟩ := A
      have hc0 := (hq 0 hpos).1
      have hspot : spot = none := by simpa [Addr.add] using World.cell?_spot hc0
      subst hspot
      refine ⟨b, off, rfl, ?_, fun i hi => ?_⟩
      · have := World.block_lt_of_cell? W _ hc0
        simpa [Addr.add] using this
      · have := (hq i hi).1
        rwa [add0] at this
set_option maxRecDepth 100000 in
theorem row_of {H : Type} {enc : TypeId × Value → H} {W : World} {cs : List Value} {fuel : Nat} {x : DataW H × List MemPlace}
    (h : DataW.trod enc Tryz.prog W 0 (fun _ => true) true fuel 44 cs = some x) : ∃ (f : Lr) (va : Value), cs = [va, .bool f.st, .string (strOf f.bd)] ∧ ArgStrs W va f.cs ∧ f.bd.length ≤ maxLen := by
  obtain ⟨xs, k, _, _, hlen, hxl, hf⟩ := DataW.trod_struct Tryz.underlying44 h
  have c3 : Tryz.prog.cellsOf 44 = 3 := by kernel_rfl
  have c9 : Tryz.prog.cellsOf 9 = 1 := by kernel_rfl
  have c4 : Tryz.prog.cellsOf 4 = 1 := by kernel_rfl
  have cs9 : Tryz.prog.cellsOf 42 = 1 := by kernel_rfl
  rw [c3] at hlen
  obtain ⟨v0, v1, v2, rfl⟩ := three_of hlen
  have hxl3 : xs.length = 3 := hxl
  have f0 : DataW.trod enc Tryz.prog W 0 (fun _ => true) true k 42 (List.take (Tryz.prog.cellsOf 42) (List.drop 0 [v0, v1, v2])) = xs[0]? := hf 0 _ rfl
  have f1 : DataW.trod enc Tryz.prog W 0 (fun _ => true) true k 4 (List.take (Tryz.prog.cellsOf 4) (List.drop 1 [v0, v1, v2])) = xs[1]? := hf 1 _ rfl
  have f2 : DataW.trod enc Tryz.prog W 0 (fun _ => true) true k 9 (List.take (Tryz.prog.cellsOf 9) (List.drop 2 [v0, v1, v2])) = xs[2]? := hf 2 _ rfl
  rw [cs9, List.getElem?_eq_getElem (by omega)] at f0
  rw [c4, List.getElem?_eq_getElem (by omega)] at f1
  rw [c9, List.getElem?_eq_getElem (by omega)] at f2
  obtain ⟨b1, e1, _⟩ := DataW.trod_bool Tryz.underlying4 f1
  obtain ⟨s2, e2, _, w2⟩ := DataW.trod_string Tryz.underlying9 f2
  obtain ⟨L, hL⟩ := strs_of (v := v0) (by simpa using f0)
  simp at e1 e2
  subst e1 e2
  exact ⟨⟨L, b1, s2.data.toList⟩, v0, by rw [strOf_data], hL, Nat.le_trans (Nat.le_of_eq Array.length_toList) w2⟩
set_option maxRecDepth 100000 in
theorem rows_of {H : Type} {enc : TypeId × Value → H} {W : World} {v : Value} {fuel : Nat} {x : DataW H × List MemPlace}
    (h : DataW.trod enc Tryz.prog W 0 (fun _ => true) true fuel 23 [v] = some x) : ∃ F, ArgRows W v F := by
  rcases Go.Deep.open_slice Tryz.underlying23 h with ⟨hcs, _⟩ | ⟨A, l, c, m, n, D, Pl, hcs, _, hl, hm, hmm, _, hx⟩
  · simp only [List.cons.injEq, and_true] at hcs
    subst hcs
    exact ⟨[], _, _, rfl, Nat.zero_le _, Nat.zero_le _, fun s hs => (by cases hs), .inl rfl⟩
  · simp only [List.cons.injEq, and_true] at hcs
    subst hcs
    have hce : Tryz.prog.cellsOf 44 = 3 := by kernel_rfl
    simp only [if_true] at hmm
    rw [hce] at hx
    have each : ∀ i, i < l → ∃ f : Lr, ((∃ va, W.cell? ((A.add (i * 3)).add 0) = some va ∧ ArgStrs W va f.cs) ∧ W.cell? ((A.add (i * 3)).add 1) = some (.bool f.st) ∧ W.cell? ((A.add (i * 3)).add 2) = some (.string (strOf f.bd))) ∧ f.bd.length ≤ maxLen := by
      intro i hi
      obtain ⟨cs, h1, h2⟩ := hx i (by omega)
      obtain ⟨_, _, hcell⟩ := World.cells?_some h1
      obtain ⟨f, va, rfl, hva, hs⟩ := row_of h2
      exact ⟨f, ⟨⟨va, hcell 0 (by decide), hva⟩, hcell 1 (by decide), hcell 2 (by decide)⟩, hs⟩
    obtain ⟨L, hL, hq⟩ := list_of l each
    subst hL
    refine ⟨L, _, _, rfl, by omega, hm, fun s hs => ?_, ?_⟩
    · obtain ⟨j, hj, rfl⟩ := List.getElem_of_mem hs
      exact (hq j hj).2
    · by_cases h0 : L = []
      · exact .inl h0
      right
      have hpos : 0 < L.length := List.length_pos_iff.2 h0
      obtain ⟨b, off, spot⟩ := A
      obtain ⟨va0, hc0, _⟩ := (hq 0 hpos).1.1
      have hspot : spot = none := by simpa [Addr.add] using World.cell?_spot hc0
      subst hspot
      refine ⟨b, off, rfl, ?_, fun i hi => ?_⟩
      · have := World.block_lt_of_cell? W _ hc0
        simpa [Addr.add] using this
      · obtain ⟨⟨⟨va, k0, hva⟩, k1, k2⟩, _⟩ := hq i hi
        simp only [add0] at k0 k1 k2
        exact ⟨⟨va, k0, hva⟩, k1, k2⟩
end Go.Proofs.YtebldkelihmihaaGreatDoor.L
