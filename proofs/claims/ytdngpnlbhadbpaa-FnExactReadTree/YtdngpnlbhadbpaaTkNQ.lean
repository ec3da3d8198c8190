import Derived.Test.YtdngpnlbhadbpaaTkY
import Derived.Deep.RegionHeld3
import Derived.Test.YtdngpnlbhadbpaaTkZ
namespace Go.Proofs.Ytdngpnlbhadbpaa
open Go.ChangeShapes Go.WideShapes Go.ChangeAt Go.RowKit
/-- A number's digits, ahead of a text. -/
def digs : Nat → Nat → List UInt8 → List UInt8
  | 0, _, acc => acc
  | f + 1, k, acc => if k = 0 then acc else digs f (k / 10) ((48 + k % 10).toUInt8 :: acc)
def mtx (k : Nat) : ByteArray := strOf (109 :: digs 20 k [])
theorem digs_step {f k : Nat} {acc : List UInt8} (h : 0 < k) : digs (f + 1) k acc = digs f (k / 10) ((48 + k % 10).toUInt8 :: acc) := by
  show (if k = 0 then _ else _) = _
  rw [if_neg (by omega)]
theorem digs_end {f : Nat} {acc : List UInt8} : digs f 0 acc = acc := by cases f <;> rfl
theorem digit_u8 (k : Nat) : ((48 + k % 10).toUInt8.toNat : Int) = 48 + (k : Int) % 10 := by
  have : (48 + k % 10).toUInt8.toNat = 48 + k % 10 := by
    rw [Nat.toUInt8, UInt8.toNat_ofNat']; omega
  rw [this]; omega
set_option maxRecDepth 100000 in
set_option maxHeartbeats 4000000 in
theorem markText_any (k : Nat) (w : World) (h0 : 0 < k) (hk : k ≤ 100000) :
    Calls Try.prog 33 #[.int .i64 (k : Nat)] w fun e w' => e = .returned (.string (mtx k)) ∧ Below w.heap.size w w' := by
  obtain ⟨D, hD⟩ : ∃ D, digs 20 k [] = D := ⟨_, rfl⟩
  have HD : Hid (mtx k = strOf (109 :: D)) := by unfold Hid mtx; rw [hD]
  have HDD := hidG hD
  rw [HD.out]
  clear hD
  go_enter Try.func33, Try.ntmps33
  go_wp2_with fail
  go_loopw [0, 3] (fun kv ov wr => ∃ (f m : Nat) (acc : List UInt8) (t : ByteArray), m ≤ 100000 ∧ m < 10 ^ f ∧ t.size ≤ 20 ∧ f + t.size ≤ 20 ∧ kv = .int .i64 (m : Nat) ∧ ov = .string t ∧ t = strOf acc ∧ digs f m acc = D ∧ Below w.heap.size w wr) (fun kv _ _ => (intOf kv).toNat)
  case atStart => exact ⟨20, k, [], ⟨#[]⟩, hk, by omega, by decide, by decide, rfl, rfl, rfl, HDD.out, Below.refl _ _⟩
  case round =>
    obtain ⟨f, m, acc, t, hm, hmf, hal, hfa, rfl, rfl, hta, hdg, hB⟩ := hrel
    have HB := hidG hB
    have HTA := hidG hta
    have hsz := hB.size
    clear hB hta
    by_cases hm0 : 0 < m
    · obtain ⟨f', rfl⟩ : ∃ f', f = f' + 1 := ⟨f - 1, by cases f with | zero => simp at hmf; omega | succ f => rfl⟩
      rw [digs_step hm0] at hdg
      have HG := hidG hdg
      have hmf' : m / 10 < 10 ^ f' := by rw [Nat.pow_succ] at hmf; omega
      have HMF := hidG hmf'
      obtain ⟨Y, hY⟩ : ∃ Y, strOf [(48 + m % 10).toUInt8] = Y := ⟨_, rfl⟩
      have hYs : Y.size = 1 := by rw [← hY]; rfl
      have HY := hidG hY
      have hconv : (convert 47 9 (.slice (some ⟨wr.heap.size, 0, none⟩) 1 1)).run Try.prog (wr.alloc (.cells #[.int .u8 (48 + (m : Int) % 10)] 5)) = .ok (.string Y) (wr.alloc (.cells #[.int .u8 (48 + (m : Int) % 10)] 5)) := by
        have hx := bx_new wr [.int .u8 (48 + (m : Int) % 10)] 5
        rw [← hY]
        exact run_convert_bytes_back (P := Try.prog) _ 47 9 5 ⟨wr.heap.size, 0, none⟩ 1 [(48 + m % 10).toUInt8] Try.underlying47 Try.underlying5 Try.underlying9 (fun j hj => by
          obtain rfl : j = 0 := by simpa using hj
          refine (hx.cell 0).trans ?_
          show some (Value.int .u8 _) = some (Value.int .u8 _)
          rw [show ([(48 + m % 10).toUInt8] : List UInt8)[0] = (48 + m % 10).toUInt8 from rfl, digit_u8])
      clear hdg hmf hmf' hY
      go_wp2_with fail
      go_roundw
      case rel =>
        refine ⟨f', m / 10, (48 + m % 10).toUInt8 :: acc, Y ++ t, by omega, HMF.out, ?_, ?_, by go_num, rfl, ?_, HG.out, HB.out.alloc hsz _⟩
        · rw [ByteArray.size_append]; omega
        · rw [ByteArray.size_append]; omega
        · rw [← HY.out, HTA.out]; apply ba_eq; simp [strOf]
      case measure => simp [intOf]; omega
    · obtain rfl : m = 0 := by omega
      rw [digs_end] at hdg
      have HG := hidG hdg
      clear hdg hmf
      go_wp2_with fail
      go_ret
      refine ⟨?_, HB.out⟩
      rw [← HG.out, HTA.out]
      congr 2
def mkN (k i : Nat) : Nd × Int := (⟨((k + 4 * i : Nat) : Int), mtx (k + 4 * i + 1), ((k + 4 * i + 2 : Nat) : Int)⟩, ((k + 4 * i + 3 : Nat) : Int))
def markL (k : Nat) : Nat → List (Nd × Int)
  | 0 => []
  | i + 1 => markL k i ++ [mkN k i]
theorem markL_len (k : Nat) : ∀ i, (markL k i).length = i
  | 0 => rfl
  | i + 1 => by simp [markL, markL_len k i]
theorem markL_at (k : Nat) : ∀ (n i : Nat) (h : i < (markL k n).length), (markL k n)[i] = mkN k i
  | 0, i, h => by simp [markL] at h
  | n + 1, i, h => by
    rw [markL_len] at h
    by_cases hi : i < n
    · have : i < (markL k n).length := by rw [markL_len]; exact hi
      simp only [markL]
      rw [List.getElem_append_left this]; exact markL_at k n i this
    · obtain rfl : i = n := by omega
      simp only [markL]
      rw [List.getElem_append_right (by rw [markL_len]; exact Nat.le_refl _)]
      simp [markL_len]
/-- Four cells of a node, written. -/
theorem cells_put (A B : List (Nd × Int)) (x : Nd × Int) (k : Int) (t : ByteArray) (kd q : Int) {i : Nat} (hi : A.length = i) :
    ((((cellsN (A ++ x :: B)).set (i * 4) (.int .i64 k)).set (i * 4 + 1) (.string t)).set (i * 4 + 2) (.int .i64 kd)).set (i * 4 + 3) (.int .i64 q) = cellsN (A ++ (⟨k, t, kd⟩, q) :: B) := by
  subst hi
  have e : ∀ d v (l : List Value), (cellsN A ++ l).set (A.length * 4 + d) v = cellsN A ++ l.set d v := fun d v l => by
    rw [List.set_append_right _ _ (by rw [cellsN_len]; omega)]
    congr 2
    rw [cellsN_len]; omega
  rw [cellsN_app, cellsN_app]
  have e0 := e 0
  rw [Nat.add_zero] at e0
  rw [e0, e, e, e]
  rfl
set_option maxRecDepth 100000 in
set_option maxHeartbeats 4000000 in
theorem markNodeS_row (base g c k : Nat) (ns : List (Nd × Int)) (w : World) (hown : w.ownsRow base 35 4 (.slice (some ⟨g, 0, none⟩) ns.length c) ns.length (cellsN ns)) (hn : ns.length ≤ 8000) (hk0 : 0 < k) (hk : k ≤ 1000) (hbw : base ≤ w.heap.size) :
    Calls Try.prog 18 #[.slice (some ⟨g, 0, none⟩) ns.length c, .int .i64 (k : Nat)] w fun e w' => e = .returned (.int .i64 (k + 4 * ns.length : Nat)) ∧ w'.ownsRow base 35 4 (.slice (some ⟨g, 0, none⟩) ns.length c) ns.length (cellsN (markL k ns.length)) ∧ (∀ b, b < w.heap.size → b ≠ g → w'.heap[b]? = w.heap[b]?) ∧ Below base w w' := by
  have HOWN := hidG hown
  have hg := hown.lt g rfl
  have hcap := own_cap hown
  unfold maxLen at hcap
  clear hown
  go_enter Try.func18, Try.ntmps18
  go_wp2_with fail
  go_loopw [1, 5] (fun kv iv wr => ∃ i : Nat, i ≤ ns.length ∧ iv = .int .i64 (i : Nat) ∧ kv = .int .i64 ((k + 4 * i : Nat) : Int) ∧ wr.ownsRow base 35 4 (.slice (some ⟨g, 0, none⟩) ns.length c) ns.length (cellsN (markL k i ++ ns.drop i)) ∧ (∀ b, b < w.heap.size → b ≠ g → wr.heap[b]? = w.heap[b]?) ∧ Below base w wr) (fun _ iv _ => ns.length - (intOf iv).toNat)
  case atStart => exact ⟨0, Nat.zero_le _, rfl, rfl, HOWN.out, fun _ _ _ => rfl, Below.refl _ _⟩
  case round =>
    obtain ⟨i, hi, rfl, rfl, ho, hkp, hB⟩ := hrel
    have HO := hidG ho
    have HKP := hidG hkp
    clear hkp
    have HB := hidG hB
    have hsz := hB.size
    have hgl : g < wr.heap.size := (ho.lt g rfl).2
    by_cases hlt : i < ns.length
    · have hl4 : (markL k i ++ ns.drop i).length = ns.length := by rw [List.length_append, markL_len, List.length_drop]; omega
      have hil : i < (markL k i ++ ns.drop i).length := by omega
      have k0 := ho.cellAt (i * 4 + 0) (by omega)
      have k1 := ho.cellAt (i * 4 + 1) (by omega)
      have k2 := ho.cellAt (i * 4 + 2) (by omega)
      have k3 := ho.cellAt (i * 4 + 3) (by omega)
      rw [cellsN_at _ i 0 hil (by decide), Nat.add_zero] at k0
      rw [cellsN_at _ i 1 hil (by decide)] at k1
      rw [cellsN_at _ i 2 hil (by decide)] at k2
      rw [cellsN_at _ i 3 hil (by decide)] at k3
      obtain ⟨x, hx⟩ : ∃ x, (markL k i ++ ns.drop i)[i] = x := ⟨_, rfl⟩
      rw [hx] at k0 k1 k2 k3
      simp only [nodeC] at k0 k1 k2 k3
      have f0 := ho.frozenAt (i * 4)
      have f1 := ho.frozenAt (i * 4 + 1)
      have f2 := ho.frozenAt (i * 4 + 2)
      have f3 := ho.frozenAt (i * 4 + 3)
      obtain ⟨kk, hkk⟩ : ∃ kk : Nat, k + 4 * i = kk := ⟨_, rfl⟩
      have hk1 : kk ≤ 40000 := by omega
      obtain ⟨T, hT⟩ : ∃ T, mtx (kk + 1) = T := ⟨_, rfl⟩
      have HMT : Hid (∀ w, Calls Try.prog 33 #[.int .i64 ((kk : Int) + 1)] w fun e w' => e = .returned (.string T) ∧ Below w.heap.size w w') := fun w => by rw [← hT]; exact markText_any (kk + 1) w (by omega) (by omega)
      have hs1 := (ho.stored (i * 4) (.int .i64 (kk : Nat))).1
      have HS1 := hidG hs1
      have HW1 : Hid (∀ w2, Below (wr.setCell ⟨g, i * 4, none⟩ (.int .i64 (kk : Nat))).heap.size (wr.setCell ⟨g, i * 4, none⟩ (.int .i64 (kk : Nat))) w2 → w2.ownsRow base 35 4 (.slice (some ⟨g, 0, none⟩) ns.length c) ns.length ((cellsN (markL k i ++ ns.drop i)).set (i * 4) (.int .i64 (kk : Nat)))) := fun w2 hb2 => own_other' hs1 (fun g hg => hb2.block g (hs1.lt g hg).2)
      have HFIN : Hid (((((cellsN (markL k i ++ ns.drop i)).set (i * 4) (.int .i64 (kk : Nat))).set (i * 4 + 1) (.string T)).set (i * 4 + 2) (.int .i64 ((kk : Int) + 2))).set (i * 4 + 3) (.int .i64 ((kk : Int) + 3)) = cellsN (markL k (i + 1) ++ ns.drop (i + 1))) := by
        unfold Hid
        rw [List.drop_eq_getElem_cons hlt, cells_put (markL k i) _ _ _ _ _ _ (markL_len k i)]
        simp only [markL, List.append_assoc, List.singleton_append, mkN]
        rw [hkk, hT]; rfl
      have hj1 : ((kk : Int) + 1) + 1 = (kk : Int) + 2 := by omega
      have hj2 : ((kk : Int) + 2) + 1 = (kk : Int) + 3 := by omega
      have HKK := hidG hkk
      rw [hkk]
      clear ho hB hx hkk hs1 hT k1 k2 k3 f1 f2 f3 hj1 hj2
      go_wp2_with (go_at_call 33; refine (HMT.out _).mono ?_; rintro e w2 ⟨rfl, hb2⟩; have ho2 := HW1.out w2 hb2; have k1 := ho2.cellAt (i * 4 + 1) (by omega); have k2 := ho2.cellAt (i * 4 + 2) (by omega); have k3 := ho2.cellAt (i * 4 + 3) (by omega); rw [List.getElem?_set_ne (by omega), cellsN_at _ i 1 hil (by decide)] at k1; rw [List.getElem?_set_ne (by omega), cellsN_at _ i 2 hil (by decide)] at k2; rw [List.getElem?_set_ne (by omega), cellsN_at _ i 3 hil (by decide)] at k3; simp only [nodeC] at k1 k2 k3; have f1 := ho2.frozenAt (i * 4 + 1); have f2 := ho2.frozenAt (i * 4 + 2); have f3 := ho2.frozenAt (i * 4 + 3); have HO2 := hidG ho2; have HKP2 : Hid (∀ b, b < w.heap.size → b ≠ g → w2.heap[b]? = w.heap[b]?) := (fun b hb hbg => ((hb2.block b (by simp; omega)).trans (Below.heap_setCell wr _ _ b hbg)).trans (HKP.out b hb hbg)); have HB2 : Hid (Below base w w2) := (HB.out.setCell (p := ⟨g, i * 4, none⟩) hg.1 _).trans (hb2.mono (by simp; omega)); clear hb2 ho2)
      go_roundw
      case rel =>
        refine ⟨i + 1, by omega, by go_num, ?_, ?_, (fun b hb hbg => by rw [Below.heap_setCell _ _ _ b hbg, Below.heap_setCell _ _ _ b hbg, Below.heap_setCell _ _ _ b hbg]; exact HKP2.out b hb hbg), ((HB2.out.setCell (p := ⟨g, i * 4 + 1, none⟩) hg.1 _).setCell (p := ⟨g, i * 4 + 2, none⟩) hg.1 _).setCell (p := ⟨g, i * 4 + 3, none⟩) hg.1 _⟩
        · have := HKK.out; rw [show k + 4 * (i + 1) = kk + 4 by omega]; go_num
        · rw [← HFIN.out]
          exact (((HO2.out.stored (i * 4 + 1) (.string T)).1.stored (i * 4 + 2) (.int .i64 ((kk : Int) + 2))).1.stored (i * 4 + 3) (.int .i64 ((kk : Int) + 3))).1
      case measure => simp [intOf]; omega
    · obtain rfl : i = ns.length := by omega
      have HO' : Hid (wr.ownsRow base 35 4 (.slice (some ⟨g, 0, none⟩) ns.length c) ns.length (cellsN (markL k ns.length))) := by
        unfold Hid; have := HO.out; rw [List.drop_length, List.append_nil] at this; exact this
      clear ho hB
      go_wp2_with fail
      go_ret
      exact ⟨rfl, HO'.out, HKP.out, HB.out⟩
end Go.Proofs.Ytdngpnlbhadbpaa
namespace Go.Proofs.Ytdngpnlbhadbpaa
open Go.ChangeShapes Go.WideShapes Go.ChangeAt Go.RowKit
theorem row_at {W : World} {base g c : Nat} {ns : List (Nd × Int)} (h : W.ownsRow base 35 4 (.slice (some ⟨g, 0, none⟩) ns.length c) ns.length (cellsN ns)) {i : Nat} (hi : i < ns.length) :
    W.cell? ⟨g, i * 4, none⟩ = some (.int .i64 ns[i].1.kind) ∧ W.cell? ⟨g, i * 4 + 1, none⟩ = some (.string ns[i].1.text) ∧ W.cell? ⟨g, i * 4 + 2, none⟩ = some (.int .i64 ns[i].1.kids) ∧ W.cell? ⟨g, i * 4 + 3, none⟩ = some (.int .i64 ns[i].2) := by
  have e : ∀ d, d < 4 → W.cell? ⟨g, i * 4 + d, none⟩ = (nodeC ns[i])[d]? := fun d hd => by
    rw [h.cellAt (i * 4 + d) (by omega), cellsN_at ns i d hi hd]
  have e0 := e 0 (by decide)
  rw [Nat.add_zero] at e0
  exact ⟨e0, e 1 (by decide), e 2 (by decide), e 3 (by decide)⟩
theorem heldNR_none (p : Option Addr) (c : Nat) (k : Int) (w : World) :
    Calls Try.prog 19 #[.slice p 0 c, .int .i64 k] w fun e w' => e = .returned (.int .i64 k) ∧ Below w.heap.size w w' := by
  go_enter Try.func19, Try.ntmps19
  go_wp2_with fail
  go_loop [1, 5] (fun kv i => kv = .int .i64 k ∧ i = .int .i64 0) (fun _ _ => 0)
  case atStart => exact ⟨rfl, rfl⟩
  case round =>
    obtain ⟨rfl, rfl⟩ := hrel
    go_wp2_with fail
    go_ret
    exact ⟨rfl, Below.refl _ _⟩
theorem markNR_none (p : Option Addr) (c : Nat) (k : Int) (w : World) :
    Calls Try.prog 18 #[.slice p 0 c, .int .i64 k] w fun e w' => e = .returned (.int .i64 k) ∧ Below w.heap.size w w' := by
  go_enter Try.func18, Try.ntmps18
  go_wp2_with fail
  go_loop [1, 5] (fun kv i => kv = .int .i64 k ∧ i = .int .i64 0) (fun _ _ => 0)
  case atStart => exact ⟨rfl, rfl⟩
  case round =>
    obtain ⟨rfl, rfl⟩ := hrel
    go_wp2_with fail
    go_ret
    exact ⟨rfl, Below.refl _ _⟩
theorem eqNR_none (p1 p2 : Option Addr) (c1 c2 : Nat) (w : World) :
    Calls Try.prog 17 #[.slice p1 0 c1, .slice p2 0 c2] w fun e w' => e = .returned (.bool true) ∧ Below w.heap.size w w' := by
  go_enter Try.func17, Try.ntmps17
  go_wp2_with fail
  go_loop [5] (fun i => i = .int .i64 0) (fun _ => 0)
  case atStart => rfl
  case round =>
    subst hrel
    go_wp2_with fail
    go_ret
    exact ⟨rfl, Below.refl _ _⟩
theorem eqNode_self (k q kd : Int) (s : ByteArray) (w : World) :
    Calls Try.prog 32 #[.agg #[.int .i64 k, .string s, .int .i64 kd, .int .i64 q], .agg #[.int .i64 k, .string s, .int .i64 kd, .int .i64 q]] w fun e w' => e = .returned (.bool true) ∧ Below w.heap.size w w' := by
  go_enter Try.func32, Try.ntmps32
  go_wp2_with fail
  go_ret
  exact ⟨rfl, (below_alloc _ _).trans ((below_alloc _ _).mono (by simp))⟩
set_option maxRecDepth 100000 in
set_option maxHeartbeats 4000000 in
theorem eqNR_row (base1 base2 b1 c1 b2 c2 : Nat) (ns : List (Nd × Int)) (w : World) (h1 : w.ownsRow base1 35 4 (.slice (some ⟨b1, 0, none⟩) ns.length c1) ns.length (cellsN ns)) (h2 : w.ownsRow base2 35 4 (.slice (some ⟨b2, 0, none⟩) ns.length c2) ns.length (cellsN ns)) (hn : ns.length ≤ 8000) :
    Calls Try.prog 17 #[.slice (some ⟨b1, 0, none⟩) ns.length c1, .slice (some ⟨b2, 0, none⟩) ns.length c2] w fun e w' => e = .returned (.bool true) ∧ Below w.heap.size w w' := by
  have hb1 := (h1.lt b1 rfl).2
  have hb2 := (h2.lt b2 rfl).2
  have hcap1 := own_cap h1
  have hcap2 := own_cap h2
  unfold maxLen at hcap1 hcap2
  have H1 := hidG h1
  have H2 := hidG h2
  clear h1 h2
  go_enter Try.func17, Try.ntmps17
  go_wp2_with fail
  go_loopw [5] (fun iv wr => ∃ i : Nat, i ≤ ns.length ∧ iv = .int .i64 (i : Nat) ∧ Below w.heap.size w wr) (fun iv _ => ns.length - (intOf iv).toNat)
  case atStart => exact ⟨0, Nat.zero_le _, rfl, Below.refl _ _⟩
  case round =>
    obtain ⟨i, hi, rfl, hB⟩ := hrel
    have HB := hidG hB
    by_cases hlt : i < ns.length
    · obtain ⟨k0, k1, k2, k3⟩ := row_at H1.out hlt
      obtain ⟨m0, m1, m2, m3⟩ := row_at H2.out hlt
      rw [← hB.cell (p := ⟨b1, i * 4, none⟩) hb1] at k0
      rw [← hB.cell (p := ⟨b1, i * 4 + 1, none⟩) hb1] at k1
      rw [← hB.cell (p := ⟨b1, i * 4 + 2, none⟩) hb1] at k2
      rw [← hB.cell (p := ⟨b1, i * 4 + 3, none⟩) hb1] at k3
      rw [← hB.cell (p := ⟨b2, i * 4, none⟩) hb2] at m0
      rw [← hB.cell (p := ⟨b2, i * 4 + 1, none⟩) hb2] at m1
      rw [← hB.cell (p := ⟨b2, i * 4 + 2, none⟩) hb2] at m2
      rw [← hB.cell (p := ⟨b2, i * 4 + 3, none⟩) hb2] at m3
      obtain ⟨q, hq⟩ : ∃ q, ns[i].2 = q := ⟨_, rfl⟩
      obtain ⟨nd, hnd⟩ : ∃ nd, ns[i].1 = nd := ⟨_, rfl⟩
      rw [hnd] at k0 k1 k2 m0 m1 m2
      rw [hq] at k3 m3
      clear hq hnd hB
      have hsz := HB.out.size
      have hhb1 := hb1
      have hhb2 := hb2
      go_wp2_with fail
      go_region_held3 (fun w' => w'.cell? ⟨b1, i * 4, none⟩ = some (.int .i64 nd.kind) ∧ w'.cell? ⟨b1, i * 4 + 1, none⟩ = some (.string nd.text) ∧ w'.cell? ⟨b1, i * 4 + 2, none⟩ = some (.int .i64 nd.kids) ∧ w'.cell? ⟨b1, i * 4 + 3, none⟩ = some (.int .i64 q) ∧ w'.cell? ⟨b2, i * 4, none⟩ = some (.int .i64 nd.kind) ∧ w'.cell? ⟨b2, i * 4 + 1, none⟩ = some (.string nd.text) ∧ w'.cell? ⟨b2, i * 4 + 2, none⟩ = some (.int .i64 nd.kids) ∧ w'.cell? ⟨b2, i * 4 + 3, none⟩ = some (.int .i64 q))
        (first
          | go_keep
          | (go_split_ands
             refine ⟨?_, ?_, ?_, ?_, ?_, ?_, ?_, ?_⟩
             · (rw [hbe.cell (p := ⟨b1, i * 4, none⟩) (Nat.lt_of_lt_of_le hhb1 hsz)]; assumption)
             · (rw [hbe.cell (p := ⟨b1, i * 4 + 1, none⟩) (Nat.lt_of_lt_of_le hhb1 hsz)]; assumption)
             · (rw [hbe.cell (p := ⟨b1, i * 4 + 2, none⟩) (Nat.lt_of_lt_of_le hhb1 hsz)]; assumption)
             · (rw [hbe.cell (p := ⟨b1, i * 4 + 3, none⟩) (Nat.lt_of_lt_of_le hhb1 hsz)]; assumption)
             · (rw [hbe.cell (p := ⟨b2, i * 4, none⟩) (Nat.lt_of_lt_of_le hhb2 hsz)]; assumption)
             · (rw [hbe.cell (p := ⟨b2, i * 4 + 1, none⟩) (Nat.lt_of_lt_of_le hhb2 hsz)]; assumption)
             · (rw [hbe.cell (p := ⟨b2, i * 4 + 2, none⟩) (Nat.lt_of_lt_of_le hhb2 hsz)]; assumption)
             · (rw [hbe.cell (p := ⟨b2, i * 4 + 3, none⟩) (Nat.lt_of_lt_of_le hhb2 hsz)]; assumption)))
        ((go_at_call 32; refine (eqNode_self nd.kind q nd.kids nd.text _).mono ?_; rintro e w2 ⟨rfl, hbe⟩))
      have HB2 : Hid (Below w.heap.size w w2) := (HB.out.drew).trans (hbe.mono hsz)
      clear hbe
      go_wp2_with fail
      go_roundw
      case rel => exact ⟨i + 1, by omega, by go_num, HB2.out⟩
      case measure => simp [intOf]; omega
    · clear hB
      go_wp2_with fail
      go_ret
      exact ⟨rfl, HB.out⟩
set_option maxRecDepth 100000 in
set_option maxHeartbeats 4000000 in
theorem heldNR_row (base g c k : Nat) (ns : List (Nd × Int)) (w : World) (h1 : w.ownsRow base 35 4 (.slice (some ⟨g, 0, none⟩) ns.length c) ns.length (cellsN ns)) (hns : ns = markL k ns.length) (hn : ns.length ≤ 8000) (hk0 : 0 < k) (hk : k ≤ 1000) :
    Calls Try.prog 19 #[.slice (some ⟨g, 0, none⟩) ns.length c, .int .i64 (k : Nat)] w fun e w' => e = .returned (.int .i64 (k + 4 * ns.length : Nat)) ∧ Below w.heap.size w w' := by
  have hb1 := (h1.lt g rfl).2
  have hcap1 := own_cap h1
  unfold maxLen at hcap1
  have H1 := hidG h1
  have HNS : Hid (∀ i (h : i < ns.length), ns[i] = mkN k i) := fun i h => by
    have h' : i < (markL k ns.length).length := by rw [markL_len]; exact h
    have := markL_at k ns.length i h'
    rw [← this]
    congr 1
  clear h1 hns
  go_enter Try.func19, Try.ntmps19
  go_wp2_with fail
  go_loopw [1, 5] (fun kv iv wr => ∃ i : Nat, i ≤ ns.length ∧ iv = .int .i64 (i : Nat) ∧ kv = .int .i64 ((k + 4 * i : Nat) : Int) ∧ Below w.heap.size w wr) (fun _ iv _ => ns.length - (intOf iv).toNat)
  case atStart => exact ⟨0, Nat.zero_le _, rfl, rfl, Below.refl _ _⟩
  case round =>
    obtain ⟨i, hi, rfl, rfl, hB⟩ := hrel
    have HB := hidG hB
    by_cases hlt : i < ns.length
    · obtain ⟨k0, k1, k2, k3⟩ := row_at H1.out hlt
      rw [← hB.cell (p := ⟨g, i * 4, none⟩) hb1] at k0
      rw [← hB.cell (p := ⟨g, i * 4 + 1, none⟩) hb1] at k1
      rw [← hB.cell (p := ⟨g, i * 4 + 2, none⟩) hb1] at k2
      rw [← hB.cell (p := ⟨g, i * 4 + 3, none⟩) hb1] at k3
      have hm := HNS.out i hlt
      rw [hm] at k0 k1 k2 k3
      simp only [mkN] at k0 k1 k2 k3
      obtain ⟨kk, hkk⟩ : ∃ kk : Nat, k + 4 * i = kk := ⟨_, rfl⟩
      have hk1 : kk ≤ 40000 := by omega
      rw [hkk] at k0 k1 k2 k3
      obtain ⟨T, hT⟩ : ∃ T, mtx (kk + 1) = T := ⟨_, rfl⟩
      rw [hT] at k1
      have HMT : Hid (∀ w, Calls Try.prog 33 #[.int .i64 ((kk : Int) + 1)] w fun e w' => e = .returned (.string T) ∧ Below w.heap.size w w') := fun w => by rw [← hT]; exact markText_any (kk + 1) w (by omega) (by omega)
      have k2' : wr.cell? ⟨g, i * 4 + 2, none⟩ = some (.int .i64 ((kk : Int) + 2)) := k2
      have k3' : wr.cell? ⟨g, i * 4 + 3, none⟩ = some (.int .i64 ((kk : Int) + 3)) := k3
      have HKK := hidG hkk
      have hsz := HB.out.size
      have hgl : g < wr.heap.size := by omega
      rw [hkk]
      clear hm hkk hT hB k2 k3
      go_wp2_with fail
      go_region_held3 (fun w' => w'.cell? ⟨g, i * 4 + 1, none⟩ = some (.string T) ∧ w'.cell? ⟨g, i * 4 + 2, none⟩ = some (.int .i64 ((kk : Int) + 2)) ∧ w'.cell? ⟨g, i * 4 + 3, none⟩ = some (.int .i64 ((kk : Int) + 3)))
        (first
          | go_keep
          | (go_split_ands
             refine ⟨?_, ?_, ?_⟩
             · (rw [hbe.cell (p := ⟨g, i * 4 + 1, none⟩) hgl]; assumption)
             · (rw [hbe.cell (p := ⟨g, i * 4 + 2, none⟩) hgl]; assumption)
             · (rw [hbe.cell (p := ⟨g, i * 4 + 3, none⟩) hgl]; assumption)))
        ((go_at_call 33; refine (HMT.out _).mono ?_; rintro e w2 ⟨rfl, hbe⟩))
      have HB2 : Hid (Below w.heap.size w w2) := (HB.out.drew).trans (hbe.mono hsz)
      go_split_ands
      clear hbe
      go_wp2_with fail
      go_roundw
      case rel => exact ⟨i + 1, by omega, by go_num, by have := HKK.out; rw [show k + 4 * (i + 1) = kk + 4 by omega]; go_num, HB2.out⟩
      case measure => simp [intOf]; omega
    · obtain rfl : i = ns.length := by omega
      clear hB
      go_wp2_with fail
      go_ret
      exact ⟨rfl, HB.out⟩
set_option maxRecDepth 100000 in
set_option maxHeartbeats 4000000 in
theorem eqTR_any (f0 f1 : Int) (va vb : Option Addr) (na nb ca cb : Nat) (w : World) (H : Hid (∀ w', Below w.heap.size w w' → Calls Try.prog 17 #[.slice va na ca, .slice vb nb cb] w' fun e w'' => e = .returned (.bool true) ∧ Below w'.heap.size w' w'')) :
    Calls Try.prog 6 #[.agg #[.int .i64 f0, .int .i64 f1, .slice va na ca], .agg #[.int .i64 f0, .int .i64 f1, .slice vb nb cb]] w fun e w' => e = .returned (.bool true) ∧ Below w.heap.size w w' := by
  go_enter Try.func6, Try.ntmps6
  go_wp2_with (go_at_call 17; refine (H.out _ ((below_alloc _ _).trans ((below_alloc _ _).mono (by simp)))).mono ?_; rintro e w2 ⟨rfl, hb2⟩; have HB2 : Hid (Below w.heap.size w w2) := ((below_alloc _ _).trans ((below_alloc _ _).mono (by simp))).trans (hb2.mono (by simp; omega)); clear hb2)
  go_ret
  exact ⟨rfl, HB2.out⟩
set_option maxRecDepth 100000 in
set_option maxHeartbeats 4000000 in
theorem markTR_any (f0 f1 : Int) (va : Option Addr) (na ca : Nat) (r : Int) (P : World → Prop) (w : World) (base : Nat) (hbw : base ≤ w.heap.size) (H : Hid (∀ w', Below w.heap.size w w' → Calls Try.prog 18 #[.slice va na ca, .int .i64 1] w' fun e w'' => e = .returned (.int .i64 r) ∧ P w'' ∧ Below base w' w'')) :
    Calls Try.prog 7 #[.agg #[.int .i64 f0, .int .i64 f1, .slice va na ca], .int .i64 1] w fun e w' => e = .returned (.int .i64 r) ∧ P w' ∧ Below base w w' := by
  have HW := hidG hbw
  clear hbw
  go_enter Try.func7, Try.ntmps7
  go_wp2_with (go_at_call 18; refine (H.out _ (below_alloc _ _)).mono ?_; rintro e w2 ⟨rfl, hp, hb2⟩; have HP := hidG hp; have HB2 : Hid (Below base w w2) := ((Below.refl base w).alloc HW.out _).trans hb2; clear hb2 hp)
  go_ret
  exact ⟨rfl, HP.out, HB2.out⟩
set_option maxRecDepth 100000 in
set_option maxHeartbeats 4000000 in
theorem heldTR_any (f0 f1 : Int) (va : Option Addr) (na ca : Nat) (r : Int) (hr : 0 ≤ r) (w : World) (H : Hid (∀ w', Below w.heap.size w w' → Calls Try.prog 19 #[.slice va na ca, .int .i64 1] w' fun e w'' => e = .returned (.int .i64 r) ∧ Below w'.heap.size w' w'')) :
    Calls Try.prog 8 #[.agg #[.int .i64 f0, .int .i64 f1, .slice va na ca], .int .i64 1] w fun e w' => e = .returned (.int .i64 r) ∧ Below w.heap.size w w' := by
  go_enter Try.func8, Try.ntmps8
  go_wp2_with (go_at_call 19; refine (H.out _ (below_alloc _ _)).mono ?_; rintro e w2 ⟨rfl, hb2⟩; have HB2 : Hid (Below w.heap.size w w2) := (below_alloc _ _).trans (hb2.mono (by simp)); clear hb2)
  go_ret
  exact ⟨rfl, HB2.out⟩
end Go.Proofs.Ytdngpnlbhadbpaa
namespace Go.Proofs.Ytdngpnlbhadbpaa
open Go.ChangeShapes Go.WideShapes Go.ChangeAt Go.RowKit
theorem inv_step {S : ByteArray} {st st' : RS} (h : Inv S.size st) (hs : stepM S.data.toList st = .inr st') : Inv S.size st' := by
  by_cases hlt : st.i < S.size
  · rw [step_c hlt] at hs
    have hl : (S.data.toList.drop st.i).length = S.size - st.i := by rw [List.length_drop, ← Lib.size_eq]
    unfold stepC at hs
    split at hs
    · cases hs; exact inv_at h hlt
    split at hs
    · have := runL_le noteB (S.data.toList.drop st.i)
      cases hs; exact inv_at h (by omega)
    split at hs
    · unfold closeM at hs
      split at hs
      · cases hs
      · rename_i j r ho
        cases hs; exact inv_cut h ho hlt
    · cases hn : nodeL (S.data.toList.drop st.i) with
      | none => rw [hn] at hs; cases hs
      | some x =>
        obtain ⟨k, t, n⟩ := x
        have := nodeL_some hn
        rw [hn] at hs
        simp only [goM] at hs
        split at hs
        · rename_i he
          cases hs; exact inv_add h (by omega) he
        · cases hs
  · rw [step_end hlt] at hs; cases hs
def RR.f0 : RR → Int | .inl x => x.1 | .inr _ => 0
def RR.f1 : RR → Int | .inl x => x.2 | .inr _ => 0
def RR.ns : RR → List (Nd × Int) | .inl _ => [] | .inr ns => ns
theorem run_ns {S : ByteArray} {st : RS} {R : RR} (h : Run S.data.toList st R) : Inv S.size st → R.ns.length ≤ 8000 := by
  obtain ⟨n, h⟩ := h
  revert st
  induction n with
  | zero =>
    intro st h hi
    have hs : stepM S.data.toList st = .inl R := h
    clear h
    by_cases hlt : st.i < S.size
    · rw [step_c hlt] at hs
      unfold stepC at hs
      split at hs
      · cases hs
      split at hs
      · cases hs
      split at hs
      · unfold closeM at hs
        split at hs
        · cases hs; simp [RR.ns]
        · cases hs
      · cases hn : nodeL (S.data.toList.drop st.i) with
        | none => rw [hn] at hs; cases hs; simp [RR.ns]
        | some x =>
          obtain ⟨k, t, n⟩ := x
          rw [hn] at hs
          simp only [goM] at hs
          split at hs
          · cases hs
          · cases hs; simp [RR.ns]
    · rw [step_end hlt] at hs
      cases hs
      cases ho : st.op with
      | nil => exact hi.n
      | cons j r => simp [endM, RR.ns]
  | succ n ih =>
    intro st h hi
    obtain ⟨_, hs, h⟩ := h
    exact ih h (inv_step hi hs)
theorem reads_ns {S : ByteArray} {R : RR} (h : ReadsTo S R) : R.ns.length ≤ 8000 := by
  rcases h with ⟨_, rfl⟩ | ⟨_, h⟩
  · simp [RR.ns]
  · exact run_ns h (inv_new _)
theorem res_row {base : Nat} {R : RR} {e : Ending} {w : World} (h : ResP base R e w) : ∃ va vc, e = .returned (.agg #[.int .i64 R.f0, .int .i64 R.f1, .slice va R.ns.length vc]) ∧ w.ownsRow base 35 4 (.slice va R.ns.length vc) R.ns.length (cellsN R.ns) := by
  rcases R with ⟨c, q⟩ | ns
  · exact ⟨none, 0, h, World.ownsRow_nil _ _ _ _⟩
  · obtain ⟨v, rfl, ho⟩ := h
    obtain ⟨va, vc, rfl⟩ := own_shape ho
    exact ⟨va, vc, rfl, ho⟩
theorem specRead_any (S : ByteArray) (R : RR) (w : World) (hS : S.size ≤ 1048576) (h : ReadsTo S R) :
    Calls Try.prog 4 #[.string S] w fun e w' => (∃ va vc, e = .returned (.agg #[.int .i64 R.f0, .int .i64 R.f1, .slice va R.ns.length vc]) ∧ w'.ownsRow w.heap.size 35 4 (.slice va R.ns.length vc) R.ns.length (cellsN R.ns)) ∧ Below w.heap.size w w' := by
  rcases h with ⟨hs, rfl⟩ | ⟨hs, h⟩
  · refine (readTree_spec_long S w hS hs).mono ?_
    rintro e w' ⟨hr, hb⟩
    exact ⟨res_row hr, hb⟩
  · refine (readTree_spec S R w hs h).mono ?_
    rintro e w' ⟨hr, hb⟩
    exact ⟨res_row hr, hb⟩
theorem implRead_any (S : ByteArray) (R : RR) (w : World) (hS : S.size ≤ 1048576) (h : ReadsTo S R) :
    Calls Try.prog 5 #[.string S] w fun e w' => (∃ va vc, e = .returned (.agg #[.int .i64 R.f0, .int .i64 R.f1, .slice va R.ns.length vc]) ∧ w'.ownsRow w.heap.size 35 4 (.slice va R.ns.length vc) R.ns.length (cellsN R.ns)) ∧ Below w.heap.size w w' := by
  rcases h with ⟨hs, rfl⟩ | ⟨hs, h⟩
  · refine (readTree_impl_long S w hS hs).mono ?_
    rintro e w' ⟨hr, hb⟩
    exact ⟨res_row hr, hb⟩
  · refine (readTree_impl S R w hs h).mono ?_
    rintro e w' ⟨hr, hb⟩
    exact ⟨res_row hr, hb⟩
theorem own_bel' {W W' : World} {base : Nat} {e : TypeId} {sz : Nat} {v : Value} {n : Nat} {xs : List Value} (h : W.ownsRow base e sz v n xs) (hb : Below W.heap.size W W') : W'.ownsRow base e sz v n xs := own_other' h (fun g hg => hb.block g (h.lt g hg).2)
/-- A row that lies below what was changed. -/
theorem own_under {W W0 W' : World} {base B : Nat} {e : TypeId} {sz : Nat} {v : Value} {n : Nat} {xs : List Value} (h0 : W0.ownsRow base e sz v n xs) (hB : W0.heap.size ≤ B) (h : W.ownsRow base e sz v n xs) (hb : Below B W W') : W'.ownsRow base e sz v n xs := own_other' h (fun g hg => hb.block g (by have := (h0.lt g hg).2; omega))
theorem own_form0 {W : World} {base : Nat} {e : TypeId} {sz : Nat} {va : Option Addr} {n c : Nat} {xs : List Value} (h : W.ownsRow base e sz (.slice va n c) n xs) (hn : 0 < n) : ∃ g, va = some ⟨g, 0, none⟩ := by
  obtain ⟨g, cap, he, _⟩ := h.form hn
  cases he
  exact ⟨g, rfl⟩
theorem eqTR_rows {b1 b2 : Nat} (f0 f1 : Int) (va vb : Option Addr) (ca cb : Nat) (ns : List (Nd × Int)) (w : World) (h1 : w.ownsRow b1 35 4 (.slice va ns.length ca) ns.length (cellsN ns)) (h2 : w.ownsRow b2 35 4 (.slice vb ns.length cb) ns.length (cellsN ns)) (hn : ns.length ≤ 8000) :
    Calls Try.prog 6 #[.agg #[.int .i64 f0, .int .i64 f1, .slice va ns.length ca], .agg #[.int .i64 f0, .int .i64 f1, .slice vb ns.length cb]] w fun e w' => e = .returned (.bool true) ∧ Below w.heap.size w w' := by
  refine eqTR_any f0 f1 va vb _ _ ca cb w (fun w' hb => ?_)
  have h1' := own_bel' h1 hb
  have h2' := own_bel' h2 hb
  rcases Nat.eq_zero_or_pos ns.length with h0 | h0
  · rw [h0]; exact eqNR_none va vb ca cb w'
  · obtain ⟨g1, rfl⟩ := own_form0 h1 h0
    obtain ⟨g2, rfl⟩ := own_form0 h2 h0
    exact eqNR_row b1 b2 g1 ca g2 cb ns w' h1' h2' hn
theorem markTR_rows {b1 : Nat} (f0 f1 : Int) (va : Option Addr) (ca : Nat) (ns : List (Nd × Int)) (w : World) (h1 : w.ownsRow b1 35 4 (.slice va ns.length ca) ns.length (cellsN ns)) (hn : ns.length ≤ 8000) (hbw : b1 ≤ w.heap.size) :
    Calls Try.prog 7 #[.agg #[.int .i64 f0, .int .i64 f1, .slice va ns.length ca], .int .i64 1] w fun e w' => e = .returned (.int .i64 (1 + 4 * ns.length : Nat)) ∧ w'.ownsRow b1 35 4 (.slice va ns.length ca) ns.length (cellsN (markL 1 ns.length)) ∧ (∀ b, b < w.heap.size → Value.ownBlock (.slice va ns.length ca) ≠ some b → w'.heap[b]? = w.heap[b]?) ∧ Below b1 w w' := by
  refine (markTR_any f0 f1 va _ ca _ (fun w' => w'.ownsRow b1 35 4 (.slice va ns.length ca) ns.length (cellsN (markL 1 ns.length)) ∧ (∀ b, b < w.heap.size → Value.ownBlock (.slice va ns.length ca) ≠ some b → w'.heap[b]? = w.heap[b]?)) w b1 hbw (fun w' hb => ?_)).mono (fun e w' h => ⟨h.1, h.2.1.1, h.2.1.2, h.2.2⟩)
  have h1' := own_bel' h1 hb
  rcases Nat.eq_zero_or_pos ns.length with h0 | h0
  · rw [h0] at h1' ⊢
    refine (markNR_none va ca 1 w').mono ?_
    rintro e w'' ⟨rfl, hb2⟩
    have hx : ns = [] := List.eq_nil_of_length_eq_zero h0
    subst hx
    exact ⟨rfl, ⟨own_bel' h1' hb2, fun b h _ => (hb2.block b (by have := hb.size; omega)).trans (hb.block b h)⟩, hb2.mono (by have := hb.size; omega)⟩
  · obtain ⟨g1, rfl⟩ := own_form0 h1 h0
    refine (markNodeS_row b1 g1 ca 1 ns w' h1' hn (by decide) (by decide) (by have := hb.size; omega)).mono ?_
    rintro e w'' ⟨rfl, h2, h3, h4⟩
    refine ⟨rfl, ⟨h2, fun b hb' hne => (h3 b (by have := hb.size; omega) (fun e => hne (by rw [e]; rfl))).trans (hb.block b hb')⟩, h4⟩
theorem heldTR_rows {b1 : Nat} (f0 f1 : Int) (va : Option Addr) (n ca : Nat) (w : World) (h1 : w.ownsRow b1 35 4 (.slice va n ca) n (cellsN (markL 1 n))) (hn : n ≤ 8000) :
    Calls Try.prog 8 #[.agg #[.int .i64 f0, .int .i64 f1, .slice va n ca], .int .i64 1] w fun e w' => e = .returned (.int .i64 (1 + 4 * n : Nat)) ∧ Below w.heap.size w w' := by
  refine heldTR_any f0 f1 va _ ca _ (by omega) w (fun w' hb => ?_)
  have h1' := own_bel' h1 hb
  rcases Nat.eq_zero_or_pos n with h0 | h0
  · subst h0
    exact heldNR_none va ca 1 w'
  · obtain ⟨g1, rfl⟩ := own_form0 h1 h0
    obtain ⟨L, hL⟩ : ∃ L, markL 1 n = L := ⟨_, rfl⟩
    have hl : L.length = n := by rw [← hL, markL_len]
    rw [hL] at h1'
    subst hl
    exact heldNR_row b1 g1 ca 1 L w' h1' hL.symm hn (by decide) (by decide)
end Go.Proofs.Ytdngpnlbhadbpaa
