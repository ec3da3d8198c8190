import Derived.Test.YtdphpfffofeklaaDoorPtQ
import Derived.Test.YtdphpfffofeklaaDoorPtK
namespace Go.Proofs.YtdphpfffofeklaaDoor.P
open Go.ChangeShapes Go.WideShapes Go.ChangeAt Go.RowKit
open T (Nd)
open L (strOf strOf_toList strOf_size Tn hidG below_alloc Bx bx_new StrsAt TreeAt strsC strs_at row_below own_lower own_other' own_base up_alloc)
/-- The writer's state while a lemma is written: whether all is right so far, and what stands behind then. -/
structure Sx (kb : Nat) (ns0 : List Nd) (sz0 : Nat) (ok : Bool) (X : List Nd) (bnd : Nat) (W : World) : Prop where
  ex : ∃ ns sz, Ws kb ns (!ok) sz W ∧ (ok = true → ns = ns0 ++ X ∧ sz = sz0 + szN X) ∧ ns.length ≤ bnd ∧ sz ≤ bnd
theorem Sx.lt {kb sz0 bnd : Nat} {ns0 X : List Nd} {ok : Bool} {W : World} (h : Sx kb ns0 sz0 ok X bnd W) : kb < W.heap.size := by
  obtain ⟨ns, sz, h1, -⟩ := h.ex
  exact h1.lt
theorem Sx.below {kb sz0 bnd : Nat} {ns0 X : List Nd} {ok : Bool} {W W' : World} (h : Sx kb ns0 sz0 ok X bnd W) (hb : Below W.heap.size W W') : Sx kb ns0 sz0 ok X bnd W' := by
  obtain ⟨ns, sz, h1, h2⟩ := h.ex
  exact ⟨ns, sz, h1.below hb, h2⟩
theorem Sx.mono {kb sz0 bnd bnd' : Nat} {ns0 X : List Nd} {ok : Bool} {W : World} (h : Sx kb ns0 sz0 ok X bnd W) (hb : bnd ≤ bnd') : Sx kb ns0 sz0 ok X bnd' W := by
  obtain ⟨ns, sz, h1, h2, h3, h4⟩ := h.ex
  exact ⟨ns, sz, h1, h2, by omega, by omega⟩
theorem Sx.bad {kb sz0 bnd : Nat} {ns0 X Y : List Nd} {ok : Bool} {W : World} (h : Sx kb ns0 sz0 ok X bnd W) : Sx kb ns0 sz0 false Y bnd (W.setCell ⟨kb, 1, none⟩ (.bool true)) := by
  obtain ⟨ns, sz, h1, -, h3, h4⟩ := h.ex
  obtain ⟨v, hx, ho⟩ := h1.ex
  exact ⟨ns, sz, ⟨v, hx.set 1 _, ownsRow_setCell_below ho (a := ⟨kb, 1, none⟩) (Nat.lt_succ_self _) _⟩, fun e => (by cases e), h3, h4⟩
theorem Sx.wrong {kb sz0 bnd : Nat} {ns0 X Y : List Nd} {W : World} (h : Sx kb ns0 sz0 false X bnd W) : Sx kb ns0 sz0 false Y bnd W := by
  obtain ⟨ns, sz, h1, -, h3, h4⟩ := h.ex
  exact ⟨ns, sz, h1, fun e => (by cases e), h3, h4⟩
/-- The box: its three cells. -/
theorem Sx.box {kb sz0 bnd : Nat} {ns0 X : List Nd} {ok : Bool} {W : World} (h : Sx kb ns0 sz0 ok X bnd W) : ∃ v sz, W.cell? ⟨kb, 0, none⟩ = some v ∧ W.cell? ⟨kb, 1, none⟩ = some (.bool (!ok)) ∧ W.cell? ⟨kb, 2, none⟩ = some (.int .i64 ((sz : Nat) : Int)) ∧ W.frozen? ⟨kb, 1, none⟩ = false ∧ (ok = true → sz = sz0 + szN X) ∧ sz ≤ bnd := by
  obtain ⟨ns, sz, h1, h2, h3, h4⟩ := h.ex
  obtain ⟨v, hx, ho⟩ := h1.ex
  obtain ⟨c0, c1, c2⟩ := hx.c3
  exact ⟨v, sz, c0, c1, c2, hx.frozen 1, fun e => (h2 e).2, h4⟩
theorem list_s (kb k sz0 bnd : Nat) (ns0 X : List Nd) (ok : Bool) (w : World) (h : Sx kb ns0 sz0 ok X bnd w) (hb : bnd ≤ 700000000) :
    Calls Tryd.prog 20 #[.pointer (some ⟨kb, 0, none⟩), .int .i64 (k : Nat)] w fun e w' => e = .returned (.tuple #[]) ∧ Sx kb ns0 sz0 ok (X ++ [listN k]) (bnd + 2) w' ∧ Fr kb w w' := by
  obtain ⟨ns, sz, h1, h2, h3, h4⟩ := h.ex
  refine (list_any kb k ns (!ok) sz w h1 (by omega) (by omega)).mono ?_
  rintro e w' ⟨rfl, h5, h6⟩
  refine ⟨rfl, ⟨_, _, h5, fun e => ?_, by simp; omega, by omega⟩, h6⟩
  obtain ⟨e1, e2⟩ := h2 e
  refine ⟨by rw [e1, List.append_assoc], ?_⟩
  rw [e2, szN_app, szN_cons, if_pos (show (listN k).kind = 1 from rfl)]
  show sz0 + szN X + 2 = sz0 + (szN X + (2 + 0))
  omega
theorem leaf_s (kb sz0 bnd : Nat) (kd : Int) (t : ByteArray) (ns0 X : List Nd) (ok : Bool) (w : World) (h : Sx kb ns0 sz0 ok X bnd w) (hb : bnd ≤ 700000000) (ht : t.size ≤ 2000000) (hk : kd ≠ 1) :
    Calls Tryd.prog 21 #[.pointer (some ⟨kb, 0, none⟩), .int .i64 kd, .string t] w fun e w' => e = .returned (.tuple #[]) ∧ Sx kb ns0 sz0 ok (X ++ [⟨kd, t, 0⟩]) (bnd + (t.size + 1)) w' ∧ Fr kb w w' := by
  obtain ⟨ns, sz, h1, h2, h3, h4⟩ := h.ex
  refine (leaf_any kb kd t ns (!ok) sz w h1 (by omega) (by omega) (by omega)).mono ?_
  rintro e w' ⟨rfl, h5, h6⟩
  refine ⟨rfl, ⟨_, _, h5, fun e => ?_, by simp; omega, by omega⟩, h6⟩
  obtain ⟨e1, e2⟩ := h2 e
  refine ⟨by rw [e1, List.append_assoc], ?_⟩
  rw [e2, szN_app, szN_one (⟨kd, t, 0⟩ : Nd) hk]
  show sz0 + szN X + t.size = sz0 + (szN X + t.size)
  omega
theorem int_s (kb sz0 bnd : Nat) (s : List UInt8) (ns0 X : List Nd) (ok : Bool) (w : World) (h : Sx kb ns0 sz0 ok X bnd w) (hb : bnd ≤ 700000000) (hl : s.length ≤ 1048576) :
    Calls Tryd.prog 22 #[.pointer (some ⟨kb, 0, none⟩), .string (strOf s)] w fun e w' => e = .returned (.tuple #[]) ∧ Sx kb ns0 sz0 (ok && isI s) (X ++ intN s) (bnd + (s.length + 5)) w' ∧ Fr kb w w' := by
  obtain ⟨ns, sz, h1, h2, h3, h4⟩ := h.ex
  refine (int_any kb s ns (!ok) sz w h1 (by omega) (by omega) hl).mono ?_
  rintro e w' ⟨rfl, h5, h6⟩
  refine ⟨rfl, ?_, h6⟩
  cases hI : isI s with
  | false =>
    rw [hI] at h5
    rw [Bool.and_false]
    exact ⟨ns, sz, h5, fun e => (by cases e), by omega, by omega⟩
  | true =>
    rw [hI] at h5
    rw [Bool.and_true]
    have hz : szN (intN s) ≤ s.length + 3 ∧ (intN s).length ≤ 3 := by
      cases hn : ngL s with
      | false => obtain ⟨e1, e2⟩ := intP_sz hn; rw [e1, e2]; simp
      | true => obtain ⟨e1, e2⟩ := intN_sz hn; rw [e1, e2]; simp; omega
    refine ⟨_, _, h5, fun e => ?_, by rw [List.length_append]; omega, by omega⟩
    obtain ⟨e1, e2⟩ := h2 e
    exact ⟨by rw [e1, List.append_assoc], by rw [e2, szN_app]; omega⟩
end Go.Proofs.YtdphpfffofeklaaDoor.P
