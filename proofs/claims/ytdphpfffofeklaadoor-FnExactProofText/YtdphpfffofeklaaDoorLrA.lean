import Derived.Test.YtdphpfffofeklaaDoorRows
import Derived.WalkKit
import Derived.WalkSpells
import Derived.ProofKit
import Derived.OpenShut
import Derived.ShutString
import Derived.Below
import Derived.Lib.Strings
import Derived.Lib.IndexBytes
import Derived.Maps.AppendAt
import Derived.Deep.RegionWith
import Derived.Deep.RegionLaw
import Derived.Deep.RegionHeld3
namespace Go.Proofs.YtdphpfffofeklaaDoor.L
open Go.ChangeShapes Go.WideShapes Go.ChangeAt Go.RowKit
theorem hidG {p : Prop} (h : p) : Hid p := h
theorem below_alloc (w : World) (o : Obj) : Below w.heap.size w (w.alloc o) := (Below.refl _ _).alloc (Nat.le_refl _) o
/-- A block that holds just these cells, and may be written. -/
def Bx (W : World) (g : Nat) (l : List Value) : Prop := ∃ ty, W.heap[g]? = some (.cells l.toArray ty (0, 0))
theorem Bx.lt {W : World} {g : Nat} {l : List Value} (h : Bx W g l) : g < W.heap.size := by
  obtain ⟨t, h⟩ := h
  exact (Array.getElem?_eq_some_iff.1 h).1
theorem Bx.cell {W : World} {g : Nat} {l : List Value} (h : Bx W g l) (i : Nat) : W.cell? ⟨g, i, none⟩ = l[i]? := by
  obtain ⟨t, h⟩ := h
  simp [World.cell?, h]
theorem Bx.frozen {W : World} {g : Nat} {l : List Value} (h : Bx W g l) (i : Nat) : W.frozen? ⟨g, i, none⟩ = false := by
  obtain ⟨t, h⟩ := h
  simp [World.frozen?, h]
theorem Bx.set {W : World} {g : Nat} {l : List Value} (h : Bx W g l) (i : Nat) (v : Value) : Bx (W.setCell ⟨g, i, none⟩ v) g (l.set i v) := by
  obtain ⟨t, h⟩ := h
  refine ⟨t, ?_⟩
  obtain ⟨hlt, hk⟩ := Array.getElem?_eq_some_iff.1 h
  show (W.heap.modify g _)[g]? = _
  rw [Array.getElem?_eq_getElem (by rw [Array.size_modify]; exact hlt), Array.getElem_modify_self, hk]
  simp
theorem Bx.below {W W' : World} {g N : Nat} {l : List Value} (h : Bx W g l) (hN : g < N) (hb : Below N W W') : Bx W' g l := by
  obtain ⟨t, h⟩ := h
  exact ⟨t, (hb.block g hN).trans h⟩
theorem Bx.alloc {W : World} {g : Nat} {l : List Value} (h : Bx W g l) (o : Obj) : Bx (W.alloc o) g l := h.below h.lt (below_alloc W o)
theorem bx_new (W : World) (l : List Value) (ty : TypeId) : Bx (W.alloc (.cells l.toArray ty)) W.heap.size l := ⟨ty, Array.getElem?_push_size⟩
theorem Bx.c3 {W : World} {g : Nat} {v0 v1 v2 : Value} {r : List Value} (h : Bx W g (v0 :: v1 :: v2 :: r)) : W.cell? ⟨g, 0, none⟩ = some v0 ∧ W.cell? ⟨g, 1, none⟩ = some v1 ∧ W.cell? ⟨g, 2, none⟩ = some v2 := ⟨h.cell 0, h.cell 1, h.cell 2⟩
def strOf (l : List UInt8) : ByteArray := ⟨l.toArray⟩
theorem strOf_toList (l : List UInt8) : (strOf l).data.toList = l := by simp [strOf]
/-- Texts in a row of memory. -/
def StrsAt (w : World) (v : Value) (L : List (List UInt8)) : Prop :=
  ∃ p c, v = .slice p L.length c ∧ L.length ≤ c ∧ c ≤ maxLen ∧ (L = [] ∨ ∃ b, p = some ⟨b, 0, none⟩ ∧ b < w.heap.size ∧ ∀ i (h : i < L.length), w.cell? ⟨b, i, none⟩ = some (.string (strOf L[i])))
theorem StrsAt.below {w w' : World} {v : Value} {L : List (List UInt8)} (h : StrsAt w v L) (hb : Below w.heap.size w w') : StrsAt w' v L := by
  obtain ⟨p, c, rfl, h1, h2, h3⟩ := h
  refine ⟨p, c, rfl, h1, h2, ?_⟩
  rcases h3 with h3 | ⟨b, e, hl, hc⟩
  · exact .inl h3
  · exact .inr ⟨b, e, Nat.lt_of_lt_of_le hl hb.size, fun i hi => (hb.cell (p := ⟨b, i, none⟩) hl).trans (hc i hi)⟩
def strsC (L : List (List UInt8)) : List Value := L.map (fun x => .string (strOf x))
theorem own_other' {W W' : World} {base : Nat} {e : TypeId} {sz : Nat} {v : Value} {n : Nat} {xs : List Value} (h : W.ownsRow base e sz v n xs) (hk : ∀ g, v.ownBlock = some g → W'.heap[g]? = W.heap[g]?) : W'.ownsRow base e sz v n xs := by
  refine ⟨h.1, ?_⟩
  rcases h.2 with h0 | ⟨g, cap, cur, rfl, h1, h2, h3⟩
  · exact .inl h0
  · exact .inr ⟨g, cap, cur, rfl, h1, (hk g rfl).trans h2, h3⟩
theorem info_str0 : (Tryd.prog.info? 9).map (fun i => (i.zero, i.size, i.bytes)) = some (some (.string ⟨#[]⟩), 1, 16) := by kernel_rfl
theorem info_str : ∃ i : TypeInfo, Tryd.prog.info? 9 = some i ∧ i.zero = some (.string ⟨#[]⟩) ∧ i.size = 1 ∧ i.bytes = 16 := info_parts info_str0
theorem own_base {w : World} {base : Nat} {e : TypeId} {size n : Nat} {v : Value} {xs : List Value} (h : w.ownsRow base e size v n xs) : ∀ g, v.ownBlock = some g → base ≤ g := by
  intro g hg
  rcases h.2 with ⟨rfl, _⟩ | ⟨g', cap, cur, rfl, hb, _⟩
  · cases hg
  · cases hg; exact hb
theorem own_lower {w : World} {base base' : Nat} {e : TypeId} {size : Nat} {v : Value} {n : Nat} {xs : List Value} (h : w.ownsRow base e size v n xs) (hb : base' ≤ base) : w.ownsRow base' e size v n xs := by
  refine ⟨h.1, ?_⟩
  rcases h.2 with h0 | ⟨g, cap, cur, e, hg, h3⟩
  · exact .inl h0
  · exact .inr ⟨g, cap, cur, e, Nat.le_trans hb hg, h3⟩
/-- An owned row's cells. -/
theorem own_read {w : World} {base g n cap size : Nat} {e : TypeId} {xs : List Value} (h : w.ownsRow base e size (.slice (some ⟨g, 0, none⟩) n cap) n xs) {j : Nat} {u : Value} (hu : xs[j]? = some u) : w.cell? ⟨g, j, none⟩ = some u := by
  rcases h.2 with ⟨h0, _⟩ | ⟨g', cap', cur, hv, _, hb, _, _, _, ht⟩
  · cases h0
  · cases hv
    rw [cell_of_row w g j cur e (0, 0) hb]
    rw [← ht, List.getElem?_take] at hu
    split at hu
    · simpa using hu
    · cases hu
theorem own_row {w : World} {base n size : Nat} {e : TypeId} {v : Value} {xs : List Value} (h : w.ownsRow base e size v n xs) : ∃ p c, v = .slice p n c ∧ n ≤ c ∧ c ≤ maxLen ∧ (n = 0 ∨ ∃ g, p = some ⟨g, 0, none⟩ ∧ g < w.heap.size) := by
  have hl := h.lt
  rcases h.2 with ⟨rfl, rfl⟩ | ⟨g, cap, cur, rfl, _, _, h1, h2, _⟩
  · exact ⟨none, 0, rfl, Nat.le_refl _, Nat.zero_le _, .inl rfl⟩
  · exact ⟨some ⟨g, 0, none⟩, cap, rfl, h1, h2, .inr ⟨g, rfl, (hl g rfl).2⟩⟩
theorem strs_at {w : World} {base : Nat} {v : Value} {L : List (List UInt8)} (h : w.ownsRow base 9 1 v L.length (strsC L)) : StrsAt w v L := by
  obtain ⟨p, c, rfl, h1, h2, h3⟩ := own_row h
  refine ⟨p, c, rfl, h1, h2, ?_⟩
  rcases h3 with h3 | ⟨g, rfl, hg⟩
  · exact .inl (List.eq_nil_of_length_eq_zero h3)
  · exact .inr ⟨g, rfl, hg, fun i hi => own_read h (by unfold strsC; rw [List.getElem?_map, List.getElem?_eq_getElem hi]; rfl)⟩
theorem up_alloc {w w' : World} (h : Below w.heap.size w w') (o : Obj) : Below w.heap.size w (w'.alloc o) := h.alloc h.size _
theorem strOf_size (x : List UInt8) : (strOf x).size = x.length := by show x.toArray.size = _; simp
/-- Texts that are handed in: a row of them, from some place on. -/
def ArgStrs (w : World) (v : Value) (L : List (List UInt8)) : Prop :=
  ∃ a c, v = .slice a L.length c ∧ L.length ≤ c ∧ c ≤ maxLen ∧ (∀ s ∈ L, s.length ≤ maxLen) ∧ (L = [] ∨ ∃ b off, a = some ⟨b, off, none⟩ ∧ b < w.heap.size ∧ ∀ i (h : i < L.length), w.cell? ⟨b, off + i, none⟩ = some (.string (strOf L[i])))
theorem ArgStrs.below {w w' : World} {v : Value} {L : List (List UInt8)} (h : ArgStrs w v L) (hb : Below w.heap.size w w') : ArgStrs w' v L := by
  obtain ⟨a, c, rfl, h1, h2, h3, h4⟩ := h
  refine ⟨a, c, rfl, h1, h2, h3, ?_⟩
  rcases h4 with h | ⟨b, off, rfl, hlt, hA⟩
  · exact .inl h
  · exact .inr ⟨b, off, rfl, Nat.lt_of_lt_of_le hlt hb.size, fun i hi => (hb.cell (p := ⟨b, off + i, none⟩) hlt).trans (hA i hi)⟩
def SmallS (L : List (List UInt8)) : Prop := L.length ≤ 1048576 ∧ ∀ s ∈ L, s.length ≤ 1048576
/-- What a count of sizes answers. -/
def Sized (P : Prop) (w : World) (e : Ending) (w' : World) : Prop := (e = .returned (.int .i64 (-1)) ∨ ∃ z : Nat, z ≤ 1048576 ∧ e = .returned (.int .i64 (z : Nat)) ∧ P) ∧ Below w.heap.size w w'
set_option maxRecDepth 100000 in
set_option maxHeartbeats 4000000 in
theorem szStringS_any (v : Value) (L : List (List UInt8)) (z0 : Nat) (w : World) (h : ArgStrs w v L) (hz0 : z0 ≤ 1048576) :
    Calls Tryd.prog 48 #[v, .int .i64 (z0 : Nat)] w (Sized (SmallS L) w) := by
  obtain ⟨a, c, rfl, hc, hc2, hts, hA⟩ := h
  unfold maxLen at hc2
  have HA := hidG hA
  have HTS := hidG hts
  clear hA hts
  by_cases hl : z0 < L.length
  · have y : decide ((z0 : Int) - (L.length : Int) < 0) = true := by rw [decide_eq_true_iff]; omega
    go_enter Tryd.func48, Tryd.ntmps48
    go_wp2_with fail
    go_ret
    exact ⟨.inl rfl, Below.refl _ _⟩
  · have y : decide ((z0 : Int) - (L.length : Int) < 0) = false := by rw [decide_eq_false_iff_not]; omega
    go_enter Tryd.func48, Tryd.ntmps48
    go_wp2_with fail
    go_loopw [1, 5] (fun zv iv wr => ∃ (i z : Nat), i ≤ L.length ∧ z ≤ 1048576 ∧ zv = .int .i64 (z : Nat) ∧ iv = .int .i64 (i : Nat) ∧ (∀ j (h : j < L.length), j < i → L[j].length ≤ 1048576) ∧ w = wr) (fun _ iv _ => L.length - (intOf iv).toNat)
    case atStart => exact ⟨0, z0 - L.length, Nat.zero_le _, by omega, by go_num, rfl, fun j _ h => absurd h (Nat.not_lt_zero _), rfl⟩
    case round =>
      obtain ⟨i, z, hi, hz, rfl, rfl, hsm, rfl⟩ := hrel
      have HSM := hidG hsm
      clear hsm
      by_cases hlt : i < L.length
      · obtain ⟨b, off, rfl, hb, hA⟩ : ∃ b off, a = some ⟨b, off, none⟩ ∧ b < w.heap.size ∧ ∀ i (h : i < L.length), w.cell? ⟨b, off + i, none⟩ = some (.string (strOf L[i])) := by
          rcases HA.out with h | h
          · rw [h] at hlt; exact absurd hlt (Nat.not_lt_zero _)
          · exact h
        have k0 := hA i hlt
        have htx := HTS.out _ (List.getElem_mem hlt)
        unfold maxLen at htx
        have hs := strOf_size L[i]
        obtain ⟨s, hsd⟩ : ∃ s, strOf L[i] = s := ⟨_, rfl⟩
        rw [hsd] at k0 hs
        have HSZ := hidG hs
        have htx' : (s.size : Int) ≤ 9223372036854775807 := by rw [hs]; omega
        clear hA hsd htx hs
        by_cases hzs : z < s.size
        · have y2 : decide ((z : Int) - (s.size : Int) < 0) = true := by rw [decide_eq_true_iff]; omega
          go_wp2_with fail
          go_ret
          exact ⟨.inl rfl, Below.refl _ _⟩
        · have y2 : decide ((z : Int) - (s.size : Int) < 0) = false := by rw [decide_eq_false_iff_not]; omega
          go_wp2_with fail
          go_roundw
          case rel =>
            refine ⟨i + 1, z - s.size, by omega, by omega, by go_num, by go_num, fun j hj hji => ?_, trivial⟩
            by_cases e : j = i
            · subst e; have := HSZ.out; omega
            · exact HSM.out j hj (by omega)
          case measure => simp [intOf]; omega
      · have hie : i = L.length := by omega
        subst hie
        go_wp2_with fail
        go_ret
        refine ⟨.inr ⟨z, hz, rfl, by omega, fun s hs => ?_⟩, Below.refl _ _⟩
        obtain ⟨j, hj, rfl⟩ := List.getElem_of_mem hs
        exact HSM.out j hj hj
theorem row_below {w w' : World} {base : Nat} {e : TypeId} {s : Nat} {v : Value} {n : Nat} {xs : List Value} (h : w.ownsRow base e s v n xs) (hb : Below w.heap.size w w') : w'.ownsRow base e s v n xs := own_other' h (fun g hg => hb.block g (h.lt g hg).2)
theorem row_at {w : World} {base g n cap s : Nat} {e : TypeId} {xs : List Value} (h : w.ownsRow base e s (.slice (some ⟨g, 0, none⟩) n cap) n xs) (j : Nat) (hj : j < n * s) : ∃ x, w.cell? ⟨g, j, none⟩ = some x := by
  rw [h.cellAt j hj]
  exact ⟨_, List.getElem?_eq_getElem (by have := h.1; omega)⟩
theorem laid1_next {α : Type} {f : α → Value} {xs : List Value} {L : List α} {i : Nat} (hx : xs.length = L.length) (h : ∀ j (hj : j < L.length), j < i → xs[j]? = some (f L[j])) (hi : i < L.length) : ∀ j (hj : j < L.length), j < i + 1 → (xs.set i (f L[i]))[j]? = some (f L[j]) := by
  intro j hj hji
  by_cases e : j = i
  · subst e
    rw [List.getElem?_set_self (by omega)]
  · rw [List.getElem?_set_ne (by omega)]
    exact h j hj (by omega)
theorem laid1_all {α : Type} {f : α → Value} {xs : List Value} {L : List α} (hx : xs.length = L.length) (h : ∀ j (hj : j < L.length), j < L.length → xs[j]? = some (f L[j])) : xs = L.map f := by
  refine List.ext_getElem? fun j => ?_
  by_cases hj : j < L.length
  · rw [h j hj hj, List.getElem?_map, List.getElem?_eq_getElem hj]; rfl
  · rw [List.getElem?_eq_none (by omega), List.getElem?_eq_none (by rw [List.length_map]; omega)]
set_option maxRecDepth 100000 in
set_option maxHeartbeats 4000000 in
theorem toStringS_any (v : Value) (L : List (List UInt8)) (w : World) (h : ArgStrs w v L) (hs : SmallS L) :
    Calls Tryd.prog 53 #[v] w fun e w' => ∃ g c, e = .returned (.slice (some ⟨g, 0, none⟩) L.length c) ∧ w'.ownsRow w.heap.size 9 1 (.slice (some ⟨g, 0, none⟩) L.length c) L.length (strsC L) ∧ Below w.heap.size w w' := by
  obtain ⟨a, c, rfl, hc, hc2, -, hA⟩ := h
  unfold maxLen at hc2
  obtain ⟨i0, hinf, hz0, hz1, hz2⟩ := info_str
  have hnl := hs.1
  have HA := hidG hA
  clear hA hs
  go_enter Tryd.func53, Tryd.ntmps53
  go_wp2_with (at_make; refine wpList_make_full _ rfl _ _ 63 rfl w.heap.size 9 i0 (.string ⟨#[]⟩) 1 Tryd.underlying63 hinf hz0 hz1 .i64 .i64 _ _ L.length rfl rfl (by simp) (by simp) (by rw [hz2]; omega) (by unfold maxLen; omega) (Nat.le_refl _) ?_)
  intro w1 hown1 hgr
  have HB1 : Hid (Below w.heap.size w w1) := (Below.refl _ _).grown hgr (Nat.le_refl _) (fun k e => by cases e)
  have HO1 := hidG hown1
  clear hown1 hgr
  go_wp2_with fail
  go_loopw [4] (fun iv wr => ∃ (i : Nat) (xs : List Value), i ≤ L.length ∧ iv = .int .i64 i ∧ (∀ j (hj : j < L.length), j < i → xs[j]? = some (.string (strOf L[j]))) ∧ wr.ownsRow w.heap.size 9 1 (.slice (some ⟨w.heap.size, 0, none⟩) L.length L.length) L.length xs ∧ Below w.heap.size w wr) (fun iv _ => L.length - (intOf iv).toNat)
  case atStart => exact ⟨0, _, Nat.zero_le _, rfl, fun j _ h => absurd h (Nat.not_lt_zero _), HO1.out, HB1.out⟩
  case round =>
    obtain ⟨i, xs, hi, rfl, hlaid, hown, hB⟩ := hrel
    have HB := hidG hB
    have HLD := hidG hlaid
    have HXL : Hid (xs.length = L.length) := by have := hown.1; unfold Hid; omega
    by_cases hlt : i < L.length
    · obtain ⟨b, off, rfl, hb, hA⟩ : ∃ b off, a = some ⟨b, off, none⟩ ∧ b < w.heap.size ∧ ∀ i (h : i < L.length), w.cell? ⟨b, off + i, none⟩ = some (.string (strOf L[i])) := by
        rcases HA.out with h | h
        · rw [h] at hlt; exact absurd hlt (Nat.not_lt_zero _)
        · exact h
      have k0 := hA i hlt
      rw [← hB.cell (p := ⟨b, off + i, none⟩) hb] at k0
      have HNX := hidG (laid1_next (f := fun x => .string (strOf x)) HXL.out hlaid hlt)
      obtain ⟨x0, e0⟩ := row_at hown i (by omega)
      have g0 := hown.frozenAt i
      have hw4 := (hown.stored i (.string (strOf L[i]))).1
      have HW4 := hidG hw4
      clear hlaid hown hB hA hw4
      go_wp2_with fail
      go_roundw
      case rel => exact ⟨i + 1, _, by omega, by go_num, HNX.out, HW4.out, HB.out.setCell (p := ⟨w.heap.size, i, none⟩) (Nat.le_refl _) _⟩
      case measure => simp [intOf]; omega
    · have hie : i = L.length := by omega
      subst hie
      have HO := hidG hown
      clear hown hB hlaid
      go_wp2_with fail
      go_ret
      have e := laid1_all (f := fun x => .string (strOf x)) HXL.out HLD.out
      have ho := HO.out
      rw [e] at ho
      exact ⟨_, _, rfl, ho, HB.out⟩
theorem box2 (w : World) (A B : List Value) (ta tb : TypeId) : ∃ W2, (w.alloc (.cells A.toArray ta)).alloc (.cells B.toArray tb) = W2 ∧ Below w.heap.size w W2 ∧ Bx W2 w.heap.size A ∧ Bx W2 (w.heap.size + 1) B ∧ W2.heap.size = w.heap.size + 1 + 1 := by
  refine ⟨_, rfl, up_alloc (below_alloc _ _) _, (bx_new w A ta).alloc _, ?_, by simp⟩
  have h := bx_new (w.alloc (.cells A.toArray ta)) B tb
  rwa [show (w.alloc (.cells A.toArray ta)).heap.size = w.heap.size + 1 by simp] at h
theorem box3 (w : World) (A B C : List Value) (ta tb tc : TypeId) : ∃ W3, ((w.alloc (.cells A.toArray ta)).alloc (.cells B.toArray tb)).alloc (.cells C.toArray tc) = W3 ∧ Below w.heap.size w W3 ∧ Bx W3 w.heap.size A ∧ Bx W3 (w.heap.size + 1) B ∧ Bx W3 (w.heap.size + 1 + 1) C ∧ W3.heap.size = w.heap.size + 1 + 1 + 1 := by
  obtain ⟨W2, h2, hb, x1, x2, hs⟩ := box2 w A B ta tb
  refine ⟨_, rfl, ?_, ?_, ?_, ?_, ?_⟩
  · rw [h2]; exact up_alloc hb _
  · rw [h2]; exact x1.alloc _
  · rw [h2]; exact x2.alloc _
  · rw [h2, ← hs]; exact bx_new W2 C tc
  · rw [h2, World.size_alloc, hs]
/-- What is read from some place on. -/
def Stays (N : Nat) (w : World) (P : World → Prop) : Prop := ∀ W', w.heap.size ≤ W'.heap.size → (∀ k, N ≤ k → k < w.heap.size → W'.heap[k]? = w.heap[k]?) → P W'
set_option maxRecDepth 100000 in
set_option maxHeartbeats 4000000 in
theorem eqStringS_same (v1 v2 : Value) (L : List (List UInt8)) (w : World) (h1 : StrsAt w v1 L) (h2 : StrsAt w v2 L) :
    Calls Tryd.prog 59 #[v1, v2] w fun e w' => e = .returned (.bool true) ∧ Below w.heap.size w w' := by
  obtain ⟨p1, c1, rfl, l1, m1, r1⟩ := h1
  obtain ⟨p2, c2, rfl, l2, m2, r2⟩ := h2
  unfold maxLen at m1 m2
  have H1 := hidG r1
  have H2 := hidG r2
  clear r1 r2
  go_enter Tryd.func59, Tryd.ntmps59
  go_wp2_with fail
  go_loopw [5] (fun iv wr => ∃ i : Nat, i ≤ L.length ∧ iv = .int .i64 (i : Nat) ∧ Below w.heap.size w wr) (fun iv _ => L.length - (intOf iv).toNat)
  case atStart => exact ⟨0, Nat.zero_le _, rfl, Below.refl _ _⟩
  case round =>
    obtain ⟨i, hi, rfl, hB⟩ := hrel
    have HB := hidG hB
    by_cases hlt : i < L.length
    · obtain ⟨b1, rfl, hb1, hc1⟩ : ∃ b, p1 = some ⟨b, 0, none⟩ ∧ b < w.heap.size ∧ ∀ i (h : i < L.length), w.cell? ⟨b, i, none⟩ = some (.string (strOf L[i])) := by
        rcases H1.out with h | h
        · rw [h] at hlt; exact absurd hlt (Nat.not_lt_zero _)
        · exact h
      obtain ⟨b2, rfl, hb2, hc2⟩ : ∃ b, p2 = some ⟨b, 0, none⟩ ∧ b < w.heap.size ∧ ∀ i (h : i < L.length), w.cell? ⟨b, i, none⟩ = some (.string (strOf L[i])) := by
        rcases H2.out with h | h
        · rw [h] at hlt; exact absurd hlt (Nat.not_lt_zero _)
        · exact h
      have k0 := hc1 i hlt
      have m0 := hc2 i hlt
      rw [← hB.cell (p := ⟨b1, i, none⟩) hb1] at k0
      rw [← hB.cell (p := ⟨b2, i, none⟩) hb2] at m0
      generalize strOf L[i] = s at k0 m0
      clear hB hc1 hc2
      go_wp2_with fail
      go_region
      all_goals
        have HB2 := hidG HB.out.drew
        go_wp2_with fail
        go_roundw
        case rel => exact ⟨i + 1, by omega, by go_num, HB2.out⟩
        case measure => simp [intOf]; omega
    · clear hB
      go_wp2_with fail
      go_ret
      exact ⟨rfl, HB.out⟩
/-- A row of an inequality: its numbers, whether it is strict, its bound. -/
structure Lr where
  cs : List (List UInt8)
  st : Bool
  bd : List UInt8
/-- Rows that are handed in. -/
def ArgRows (w : World) (v : Value) (F : List Lr) : Prop :=
  ∃ a c, v = .slice a F.length c ∧ F.length ≤ c ∧ c ≤ maxLen ∧ (∀ f ∈ F, f.bd.length ≤ maxLen) ∧ (F = [] ∨ ∃ b off, a = some ⟨b, off, none⟩ ∧ b < w.heap.size ∧ ∀ i (h : i < F.length), (∃ va, w.cell? ⟨b, off + i * 3, none⟩ = some va ∧ ArgStrs w va F[i].cs) ∧ w.cell? ⟨b, off + i * 3 + 1, none⟩ = some (.bool F[i].st) ∧ w.cell? ⟨b, off + i * 3 + 2, none⟩ = some (.string (strOf F[i].bd)))
theorem ArgRows.below {w w' : World} {v : Value} {F : List Lr} (h : ArgRows w v F) (hb : Below w.heap.size w w') : ArgRows w' v F := by
  obtain ⟨a, c, rfl, h1, h2, h3, h4⟩ := h
  refine ⟨a, c, rfl, h1, h2, h3, ?_⟩
  rcases h4 with h | ⟨b, off, rfl, hlt, hA⟩
  · exact .inl h
  · refine .inr ⟨b, off, rfl, Nat.lt_of_lt_of_le hlt hb.size, fun i hi => ?_⟩
    obtain ⟨⟨va, k0, ha⟩, k1, k2⟩ := hA i hi
    exact ⟨⟨va, (hb.cell (p := ⟨b, off + i * 3, none⟩) hlt).trans k0, ha.below hb⟩, (hb.cell (p := ⟨b, off + i * 3 + 1, none⟩) hlt).trans k1, (hb.cell (p := ⟨b, off + i * 3 + 2, none⟩) hlt).trans k2⟩
/-- Rows in memory. -/
def RowsAt (w : World) (v : Value) (F : List Lr) : Prop :=
  ∃ p c, v = .slice p F.length c ∧ F.length ≤ c ∧ c ≤ maxLen ∧ (F = [] ∨ ∃ b, p = some ⟨b, 0, none⟩ ∧ b < w.heap.size ∧ ∀ i (h : i < F.length), (∃ va, w.cell? ⟨b, i * 3, none⟩ = some va ∧ StrsAt w va F[i].cs) ∧ w.cell? ⟨b, i * 3 + 1, none⟩ = some (.bool F[i].st) ∧ w.cell? ⟨b, i * 3 + 2, none⟩ = some (.string (strOf F[i].bd)))
theorem RowsAt.below {w w' : World} {v : Value} {F : List Lr} (h : RowsAt w v F) (hb : Below w.heap.size w w') : RowsAt w' v F := by
  obtain ⟨a, c, rfl, h1, h2, h4⟩ := h
  refine ⟨a, c, rfl, h1, h2, ?_⟩
  rcases h4 with h | ⟨b, rfl, hlt, hA⟩
  · exact .inl h
  · refine .inr ⟨b, rfl, Nat.lt_of_lt_of_le hlt hb.size, fun i hi => ?_⟩
    obtain ⟨⟨va, k0, ha⟩, k1, k2⟩ := hA i hi
    exact ⟨⟨va, (hb.cell (p := ⟨b, i * 3, none⟩) hlt).trans k0, ha.below hb⟩, (hb.cell (p := ⟨b, i * 3 + 1, none⟩) hlt).trans k1, (hb.cell (p := ⟨b, i * 3 + 2, none⟩) hlt).trans k2⟩
def SmallR (f : Lr) : Prop := SmallS f.cs ∧ f.bd.length ≤ 1048576
end Go.Proofs.YtdphpfffofeklaaDoor.L
