import Derived.Test.YtdngpnlbhadbpaaDoorTrQ
import Derived.Lib.UnsafeStr
import Derived.Maps.AppendAt
import Derived.OwnWalk
import Derived.Laws.AppendOwn
namespace Go.Proofs.YtdngpnlbhadbpaaDoor
open Go.ChangeShapes Go.WideShapes Go.ChangeAt Go.RowKit
theorem Tryd.info_u8 : (Tryd.prog.info? 5).map (fun i => (i.zero, i.size, i.bytes)) = some (some (.int .u8 0), 1, 1) := by kernel_rfl
theorem owns_one (w : World) (base e : Nat) (x : Value) (hb : base ≤ w.heap.size) : (w.alloc (.cells #[x] e)).ownsRow base e 1 (.slice (some ⟨w.heap.size, 0, none⟩) 1 1) 1 [x] := by
  refine ⟨rfl, .inr ⟨w.heap.size, 1, #[x], rfl, hb, ?_, Nat.le_refl _, (by unfold maxLen; omega), rfl, rfl⟩⟩
  exact heap_alloc_new w _
theorem dbl_snoc (l : List UInt8) (c : UInt8) : dbl (l ++ [c]) = dbl l ++ (if c = 34 then [34, 34] else [c]) := by
  induction l with
  | nil => simp [dbl]
  | cons a r ih =>
    simp only [List.cons_append, dbl, ih]
    split <;> simp
theorem dbl_len (l : List UInt8) : (dbl l).length ≤ 2 * l.length := by
  induction l with
  | nil => exact Nat.le_refl _
  | cons a r ih => unfold dbl; split <;> simp <;> omega
theorem conv_cells {base : Nat} {W : World} {v : Value} {l : List UInt8} (h : W.ownsRow base 5 1 v l.length (Lib.byteCells l)) (hl : 0 < l.length) :
    (convert 22 9 v).run Tryd.prog W = .ok (.string (strOf l)) W := by
  have h' := h
  rcases h.2 with ⟨_, h0⟩ | ⟨g, cap, cur, rfl, _⟩
  · omega
  · refine run_convert_bytes_back (P := Tryd.prog) W 22 9 5 ⟨g, 0, none⟩ cap l Tryd.underlying22 Tryd.underlying5 Tryd.underlying9 (fun j hj => ?_)
    exact h'.cells (g := g) rfl j (.int .u8 (l[j].toNat : Int)) (by simp [Lib.byteCells, List.getElem?_eq_getElem hj])
set_option maxRecDepth 100000 in
set_option maxHeartbeats 4000000 in
theorem l3Written_6 (s : ByteArray) (k0 q0 : Int) (w : World) (hs : s.size ≤ 20000) :
    Calls Tryd.prog 36 #[.agg #[.int .i64 6, .string s, .int .i64 k0, .int .i64 q0]] w fun e w' => e = .returned (.string (strOf (tokT 6 s.data.toList))) ∧ Below w.heap.size w w' := by
  obtain ⟨i0, hinf, hz0, hz1, hz2⟩ := info_parts Tryd.info_u8
  go_enter Tryd.func36, Tryd.ntmps36
  go_wp2_with fail
  have hbx := (bx_new w [.int .i64 6, .string s, .int .i64 k0, .int .i64 q0] 31).alloc (.cells #[.int .u8 34] 5)
  have hown0 := owns_one (w.alloc (.cells #[.int .i64 6, .string s, .int .i64 k0, .int .i64 q0] 31)) (w.heap.size + 1) 5 (.int .u8 34) (by simp)
  obtain ⟨W0, hW0⟩ : ∃ W0, (w.alloc (.cells #[.int .i64 6, .string s, .int .i64 k0, .int .i64 q0] 31)).alloc (.cells #[.int .u8 34] 5) = W0 := ⟨_, rfl⟩
  have HBW : Hid (Below w.heap.size w W0) := by unfold Hid; rw [← hW0]; exact below_al (below_alloc _ _) (by simp) _
  have HS0 : Hid (W0.heap.size = w.heap.size + 2) := by unfold Hid; rw [← hW0]; simp
  rw [World.size_alloc, hW0] at hown0
  rw [hW0] at hbx ⊢
  have HBX : Hid (∀ W, Below (w.heap.size + 1) W0 W → W.cell? ⟨w.heap.size, 1, none⟩ = some (.string s)) := fun W hb => (hbx.below (by omega) hb).cell 1
  clear hW0 hbx
  go_loopw [3, 4] (fun v i wr => ∃ j : Nat, j ≤ s.size ∧ i = .int .i64 j ∧ wr.ownsRow (w.heap.size + 1) 5 1 v ((dbl (s.data.toList.take j)).length + 1) (Lib.byteCells (34 :: dbl (s.data.toList.take j))) ∧ Below (w.heap.size + 1) W0 wr) (fun _ i _ => s.size - (intOf i).toNat)
  case atStart => exact ⟨0, Nat.zero_le _, rfl, hown0, Below.refl _ _⟩
  case round =>
    clear hown0
    obtain ⟨j, hj, rfl, hown, hB⟩ := hrel
    have k1 := HBX.out _ hB
    have HB := hidG hB
    have hlen := dbl_len (s.data.toList.take j)
    rw [List.length_take] at hlen
    by_cases hlt : j < s.size
    · have HTK : Hid (s.data.toList.take (j + 1) = s.data.toList.take j ++ [s[j]]) := take_snoc s j hlt
      obtain ⟨P, hP⟩ : ∃ P, dbl (s.data.toList.take j) = P := ⟨_, rfl⟩
      have HP := hidG hP
      rw [hP] at hown hlen
      clear hP
      by_cases hq : s[j] = 34
      · have z : ((s[j].toNat : Int) == 34) = true := by rw [hq]; rfl
        have HQ := hidG hq
        clear hq hB
        go_wp2_with (at_builtin; refine wpList_append_own_at _ rfl _ _ 22 rfl (w.heap.size + 1) 5 i0 (.int .u8 0) 1 1 Tryd.underlying22 hinf hz0 hz1 hz2 rfl (by decide) u3 (P.length + 1) _ rfl (hown.alloc _) ⟨wr.heap.size, 0, none⟩ 1 1 [.int .u8 34] rfl rfl ?c1 ?c2 ?c3 ?c4 ?c5 ?_)
        case c1 =>
          intro i u hi
          match i, hi with
          | 0, hi => simp at hi; subst hi; simp [Addr.add]
        case c2 => intro u hu; simp at hu; subst hu; rfl
        case c3 => unfold maxLen; omega
        case c4 => omega
        case c5 => have := HB.out.size; have := HS0.out; simp; omega
        intro v1 w1 hown1 hgr1 _ _
        have hB1 : Below (w.heap.size + 1) W0 w1 := ((HB.out.alloc (by have := HB.out.size; have := HS0.out; omega) _).grown hgr1 (by have := HB.out.size; have := HS0.out; simp; omega) (fun k e => (hown.lt k e).1))
        have HB1 := hidG hB1
        have k2 := HBX.out _ hB1
        clear hown hgr1 hB1 k1
        go_wp2_with (at_builtin; refine wpList_append_own_at _ rfl _ _ 22 rfl (w.heap.size + 1) 5 i0 (.int .u8 0) 1 1 Tryd.underlying22 hinf hz0 hz1 hz2 rfl (by decide) v1 (P.length + 1 + 1) _ rfl (hown1.alloc _) ⟨w1.heap.size, 0, none⟩ 1 1 [.int .u8 (s[j].toNat : Int)] rfl rfl ?c1 ?c2 ?c3 ?c4 ?c5 ?_)
        case c1 =>
          intro i u hi
          match i, hi with
          | 0, hi => simp at hi; subst hi; simp [Addr.add]
        case c2 => intro u hu; simp at hu; subst hu; rfl
        case c3 => unfold maxLen; omega
        case c4 => omega
        case c5 => have := HB1.out.size; have := HS0.out; simp; omega
        intro v2 w2 hown2 hgr2 _ _
        have hB2 : Below (w.heap.size + 1) W0 w2 := ((HB1.out.alloc (by have := HB1.out.size; have := HS0.out; omega) _).grown hgr2 (by have := HB1.out.size; have := HS0.out; simp; omega) (fun k e => (hown1.lt k e).1))
        have HO : Hid (w2.ownsRow (w.heap.size + 1) 5 1 v2 ((dbl (s.data.toList.take (j + 1))).length + 1) (Lib.byteCells (34 :: dbl (s.data.toList.take (j + 1))))) := by
          unfold Hid
          rw [HTK.out, dbl_snoc, HP.out, if_pos HQ.out]
          have e : Lib.byteCells (34 :: (P ++ [34, 34])) = Lib.byteCells (34 :: P) ++ [Value.int .u8 34, Value.int .u8 (s[j].toNat : Int)] := by rw [HQ.out]; simp [Lib.byteCells]
          rw [e]
          have e2 : (P ++ [34, 34]).length + 1 = P.length + 1 + 1 + 1 := by simp
          rw [e2]; exact hown2
        have HB2 := hidG hB2
        clear hown1 hown2 hgr2 hB2 k2
        go_wp2
        go_roundw
        case rel => exact ⟨j + 1, by omega, by go_num, HO.out, HB2.out⟩
        case measure => simp [intOf]; omega
      · have z : ((s[j].toNat : Int) == 34) = false := by
          rw [beq_eq_false_iff_ne]
          intro e
          exact hq (UInt8.toNat_inj.1 (by show s[j].toNat = 34; omega))
        have HQ : Hid (¬ s[j] = 34) := hq
        clear hq hB
        go_wp2_with (at_builtin; refine wpList_append_own_at _ rfl _ _ 22 rfl (w.heap.size + 1) 5 i0 (.int .u8 0) 1 1 Tryd.underlying22 hinf hz0 hz1 hz2 rfl (by decide) u3 (P.length + 1) _ rfl (hown.alloc _) ⟨wr.heap.size, 0, none⟩ 1 1 [.int .u8 (s[j].toNat : Int)] rfl rfl ?c1 ?c2 ?c3 ?c4 ?c5 ?_)
        case c1 =>
          intro i u hi
          match i, hi with
          | 0, hi => simp at hi; subst hi; simp [Addr.add]
        case c2 => intro u hu; simp at hu; subst hu; rfl
        case c3 => unfold maxLen; omega
        case c4 => omega
        case c5 => have := HB.out.size; have := HS0.out; simp; omega
        intro v2 w2 hown2 hgr2 _ _
        have hB2 : Below (w.heap.size + 1) W0 w2 := ((HB.out.alloc (by have := HB.out.size; have := HS0.out; omega) _).grown hgr2 (by have := HB.out.size; have := HS0.out; simp; omega) (fun k e => (hown.lt k e).1))
        have HO : Hid (w2.ownsRow (w.heap.size + 1) 5 1 v2 ((dbl (s.data.toList.take (j + 1))).length + 1) (Lib.byteCells (34 :: dbl (s.data.toList.take (j + 1))))) := by
          unfold Hid
          rw [HTK.out, dbl_snoc, HP.out, if_neg HQ.out]
          have e : Lib.byteCells (34 :: (P ++ [s[j]])) = Lib.byteCells (34 :: P) ++ [Value.int .u8 (s[j].toNat : Int)] := by simp [Lib.byteCells]
          rw [e]
          have e2 : (P ++ [s[j]]).length + 1 = P.length + 1 + 1 := by simp
          rw [e2]; exact hown2
        have HB2 := hidG hB2
        clear hown hown2 hgr2 hB2 k1
        go_wp2
        go_roundw
        case rel => exact ⟨j + 1, by omega, by go_num, HO.out, HB2.out⟩
        case measure => simp [intOf]; omega
    · have HT : Hid (s.data.toList.take j = s.data.toList) := by unfold Hid; rw [List.take_of_length_le (by rw [← Lib.size_eq]; omega)]
      rw [HT.out] at hown hlen
      have HQ : Hid (34 :: (dbl s.data.toList ++ [34]) = tokT 6 s.data.toList) := rfl
      obtain ⟨P, hP⟩ : ∃ P, dbl s.data.toList = P := ⟨_, rfl⟩
      rw [hP] at hown hlen
      have HP := hidG hP
      clear hP hB
      go_wp2_with (at_builtin; refine wpList_append_own_at _ rfl _ _ 22 rfl (w.heap.size + 1) 5 i0 (.int .u8 0) 1 1 Tryd.underlying22 hinf hz0 hz1 hz2 rfl (by decide) u3 (P.length + 1) _ rfl (hown.alloc _) ⟨wr.heap.size, 0, none⟩ 1 1 [.int .u8 34] rfl rfl ?c1 ?c2 ?c3 ?c4 ?c5 ?_)
      case c1 =>
        intro i u hi
        match i, hi with
        | 0, hi => simp at hi; subst hi; simp [Addr.add]
      case c2 => intro u hu; simp at hu; subst hu; rfl
      case c3 => unfold maxLen; omega
      case c4 => omega
      case c5 => have := HB.out.size; have := HS0.out; simp; omega
      intro v2 w2 hown2 hgr2 _ _
      have hB2 : Below (w.heap.size + 1) W0 w2 := ((HB.out.alloc (by have := HB.out.size; have := HS0.out; omega) _).grown hgr2 (by have := HB.out.size; have := HS0.out; simp; omega) (fun k e => (hown.lt k e).1))
      have hO : w2.ownsRow (w.heap.size + 1) 5 1 v2 ((34 :: (P ++ [34])).length) (Lib.byteCells (34 :: (P ++ [34]))) := by
        have e : Lib.byteCells (34 :: (P ++ [34])) = Lib.byteCells (34 :: P) ++ [Value.int .u8 34] := by simp [Lib.byteCells]
        rw [e]
        have e2 : (34 :: (P ++ [34])).length = P.length + 1 + 1 := by simp
        rw [e2]; exact hown2
      have hcv := conv_cells hO (by simp)
      have HEND : Hid (Below w.heap.size w w2) := HBW.out.trans (hB2.mono (by omega))
      clear hown hown2 hgr2 hB2 hO k1
      go_wp2
      go_ret
      exact ⟨by rw [← HQ.out, HP.out] <;> rfl, HEND.out⟩
end Go.Proofs.YtdngpnlbhadbpaaDoor
