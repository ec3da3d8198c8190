import Derived.Test.YtknfmkeipeikkaaGreatDoorTtAB
import Derived.Maps.AppendAt
import Derived.Deep.Onto
import Derived.Deep.RegionHeld3
import Derived.Deep.DeepCutAuto
namespace Go.Proofs.YtknfmkeipeikkaaGreatDoor.L
open Go.ChangeShapes Go.WideShapes Go.ChangeAt Go.RowKit
/-- All texts short. -/
def TinyT (s : List UInt8) : Prop := s.length ≤ 30 ∧ isIntB (strOf s) = true ∧ (numT (strOf s)).natAbs < 1000000000000000
def TinyR (cols : Nat) (f : Lr) : Prop := f.cs.length = cols ∧ (∀ s ∈ f.cs, TinyT s) ∧ TinyT f.bd
theorem tiny_text {x : Int} {u : ByteArray} (h : IsText x u) (hx : x.natAbs < 1000000000000000) : TinyT u.data.toList := by
  have hne := text_has h (lt_up (Nat.lt_trans hx (by decide)))
  obtain ⟨h1, h2⟩ := text_num h hne
  unfold TinyT
  rw [strOf_data]
  refine ⟨?_, h1, by rw [h2]; exact hx⟩
  have h3 := text_short (K := 15) h hx
  have h4 : u.data.toList.length = u.size := by simp
  omega
/-- A drawn row under way: its box, its Coefs, the cursor. -/
structure BD (g N kc : Nat) (w1 wc : World) (bx : Nat) (va : Value) (rest : List Value) (T : List (List UInt8)) (W : World) : Prop where
  box : Bx W bx (va :: rest)
  row : W.ownsRow wc.heap.size 9 1 va T.length (strsC T)
  same : ∀ b, b < wc.heap.size → b ≠ bx → b ≠ g → W.heap[b]? = wc.heap[b]?
  size : wc.heap.size ≤ W.heap.size
  cur : IsCur g N W kc
  bar : Bar g w1 W
theorem BD.step {g N kc k' : Nat} {w1 wc : World} {bx : Nat} {va : Value} {rest : List Value} {T : List (List UInt8)} {W W' : World} (h : BD g N kc w1 wc bx va rest T W) (hb : Bar g W W') (hc : IsCur g N W' k') (hg : bx ≠ g) (hgc : g < wc.heap.size) : BD g N k' w1 wc bx va rest T W' :=
  ⟨h.box.barL hb hg, own_bar h.row hb hgc, fun b h1 h2 h3 => (hb.block b (Nat.lt_of_lt_of_le h1 h.size) h3).trans (h.same b h1 h2 h3), Nat.le_trans h.size hb.size, hc, h.bar.trans hb⟩
theorem BD.down {g N kc : Nat} {w1 wc : World} {bx : Nat} {va : Value} {rest : List Value} {T : List (List UInt8)} {W W' : World} (h : BD g N kc w1 wc bx va rest T W) (hb : Below W.heap.size W W') (hg : bx ≠ g) (hgc : g < wc.heap.size) : BD g N kc w1 wc bx va rest T W' :=
  h.step (Bar.of hb) (h.cur.below (hb.mono h.cur.2.1)) hg hgc
theorem BD.app {g N kc : Nat} {w1 wc : World} {bx : Nat} {pq : Option Addr} {cq : Nat} {rest : List Value} {T : List (List UInt8)} {W w5 : World} {ob : Obj} {g5 c5 : Nat} {u : ByteArray} (h : BD g N kc w1 wc bx (.slice pq T.length cq) rest T W) (hgr : (W.alloc ob).grownBy w5 (Value.slice pq T.length cq).ownBlock) (hrow : w5.ownsRow wc.heap.size 9 1 (.slice (some ⟨g5, 0, none⟩) (T.length + 1) c5) (T.length + 1) (strsC T ++ [.string u])) (hx5 : Bx w5 bx (.slice pq T.length cq :: rest)) (hbx : bx < wc.heap.size) (hw1 : w1.heap.size ≤ bx) (hN : N ≤ w1.heap.size) :
    BD g N kc w1 wc bx (.slice (some ⟨g5, 0, none⟩) (T.length + 1) c5) rest (T ++ [u.data.toList]) (w5.setCell ⟨bx, 0, none⟩ (.slice (some ⟨g5, 0, none⟩) (T.length + 1) c5)) := by
  have hg4 : W.grownBy w5 (Value.slice pq T.length cq).ownBlock := (World.grownBy_alloc W _ _).trans hgr
  have hrow2 : w5.ownsRow wc.heap.size 9 1 (.slice (some ⟨g5, 0, none⟩) (T.length + 1) c5) (T ++ [u.data.toList]).length (strsC (T ++ [u.data.toList])) := by
    rw [← strsC_app, List.length_append]
    exact hrow
  have hOB : ∀ b, (Value.slice pq T.length cq).ownBlock = some b → wc.heap.size ≤ b := fun b e => (h.row.lt b e).1
  have hsz := h.size
  have hbel : Below w1.heap.size W (w5.setCell ⟨bx, 0, none⟩ (.slice (some ⟨g5, 0, none⟩) (T.length + 1) c5)) :=
    ((Below.refl _ W).grown hg4 (by omega) (fun k e => by have := hOB k e; omega)).setCell (p := ⟨bx, 0, none⟩) hw1 _
  refine ⟨hx5.set 0 _, ownsRow_setCell_below hrow2 (a := ⟨bx, 0, none⟩) hbx _, fun b h1 h2 h3 => ?_, ?_, h.cur.below (hbel.mono hN), h.bar.then hbel⟩
  · rw [Below.heap_setCell _ ⟨bx, 0, none⟩ _ _ h2, hg4.block b (by omega) (fun e => by have := hOB b e.symm; omega)]
    exact h.same b h1 h2 h3
  · have h6 := hg4.size
    simp; omega
theorem BD.put {g N kc : Nat} {w1 wc : World} {bx : Nat} {va a b : Value} {T : List (List UInt8)} {W : World} (h : BD g N kc w1 wc bx va [a, b] T W) (v : Value) (hbx : bx < wc.heap.size) (hw1 : w1.heap.size ≤ bx) (hN : N ≤ w1.heap.size) : BD g N kc w1 wc bx va [a, v] T (W.setCell ⟨bx, 2, none⟩ v) := by
  have hbel : Below w1.heap.size W (W.setCell ⟨bx, 2, none⟩ v) := (Below.refl _ W).setCell (p := ⟨bx, 2, none⟩) hw1 _
  refine ⟨h.box.set 2 v, ownsRow_setCell_below h.row (a := ⟨bx, 2, none⟩) hbx _, fun b h1 h2 h3 => ?_, ?_, h.cur.below (hbel.mono hN), h.bar.then hbel⟩
  · rw [Below.heap_setCell _ ⟨bx, 2, none⟩ _ _ h2]
    exact h.same b h1 h2 h3
  · have := h.size
    simp; omega
/-- The rows that were there stay. -/
theorem OutR.inBD {g N kc : Nat} {w1 wc w3 : World} {va : Value} {rest : List Value} {T : List (List UInt8)} {W : World} {v : Value} {F : List Lr} {A : List Value} (hO : OutR w1.heap.size w3 v F A) (hb : Below w3.heap.size w3 wc) (hg : g < w1.heap.size) (hl : w3.heap.size < wc.heap.size) (h : BD g N kc w1 wc w3.heap.size va rest T W) : OutR w1.heap.size W v F A :=
  hO.keep (fun b h1 h2 => (h.same b (by omega) (by omega) (by omega)).trans (hb.block b h2))
theorem OutR.cells {base : Nat} {W : World} {v : Value} {F : List Lr} {A : List Value} (h : OutR base W v F A) {i : Nat} (hi : i < F.length) : ∃ (gv c : Nat) (va : Value), v = .slice (some ⟨gv, 0, none⟩) F.length c ∧ gv < W.heap.size ∧ W.cell? ⟨gv, i * 3, none⟩ = some va ∧ W.cell? ⟨gv, i * 3 + 1, none⟩ = some (.bool F[i].st) ∧ W.cell? ⟨gv, i * 3 + 2, none⟩ = some (.string (strOf F[i].bd)) ∧ W.ownsRow base 9 1 va F[i].cs.length (strsC F[i].cs) := by
  have hi' : i < A.length := by rw [h.len]; exact hi
  obtain ⟨p, c, e, hp⟩ := own_form h.own
  obtain ⟨gv, rfl⟩ : ∃ gv, p = some ⟨gv, 0, none⟩ := by
    rcases hp with rfl | hp
    · have ho := h.own
      rw [e] at ho
      rcases ho.2 with ⟨_, e2⟩ | ⟨_, _, _, e2, _⟩
      · omega
      · cases e2
    · exact hp
  have ho := h.own
  rw [e] at ho
  obtain ⟨c0, c1, c2⟩ := cellsR_at F A i hi hi'
  exact ⟨gv, c, A[i], e, (ho.lt gv rfl).2, own_read ho c0, own_read ho c1, own_read ho c2, h.rows i hi' hi⟩
theorem strs_cell {base : Nat} {W : World} {va : Value} {cs : List (List UInt8)} {n j : Nat} (hn : cs.length = n) (h : W.ownsRow base 9 1 va cs.length (strsC cs)) (hj : j < cs.length) : ∃ b c, va = .slice (some ⟨b, 0, none⟩) n c ∧ b < W.heap.size ∧ W.cell? ⟨b, j, none⟩ = some (.string (strOf cs[j])) := by
  obtain ⟨p, c, e, hp⟩ := own_form h
  obtain ⟨b, rfl⟩ : ∃ b, p = some ⟨b, 0, none⟩ := by
    rcases hp with rfl | hp
    · rw [e] at h
      rcases h.2 with ⟨_, e2⟩ | ⟨_, _, _, e2, _⟩
      · omega
      · cases e2
    · exact hp
  rw [e] at h
  refine ⟨b, c, by rw [e, hn], (h.lt b rfl).2, own_read h ?_⟩
  unfold strsC
  rw [List.getElem?_map, List.getElem?_eq_getElem hj]
  rfl
theorem mul_sm {x : Int} {r : Nat} (hr : r < 3) (hx : x.natAbs < 1000000000000000) : ((1 + (r : Int)) * x).natAbs < 1000000000 ^ 3 := by
  have h1 : (1000000000 : Nat) ^ 3 = 1000000000000000000000000000 := by decide
  rw [Int.natAbs_mul]
  have h2 : (1 + (r : Int)).natAbs * x.natAbs ≤ 3 * x.natAbs := Nat.mul_le_mul_right _ (by omega)
  omega
theorem add_sm {x y : Int} {r : Nat} (hr : r < 3) (hx : x.natAbs < 1000000000000000) (hy : y.natAbs < 1000000000000000) : (x + (1 + (r : Int)) * y).natAbs < 10000000000000000 := by
  have h2 : (1 + (r : Int)).natAbs * y.natAbs ≤ 3 * y.natAbs := Nat.mul_le_mul_right _ (by omega)
  have h3 := Int.natAbs_add_le x ((1 + (r : Int)) * y)
  rw [Int.natAbs_mul] at h3
  omega
theorem lt_sm {x : Nat} (h : x < 10000000000000000) : x < 1000000000 ^ 3 := Nat.lt_trans h (by decide)
/-- What rows answers. -/
def RowsP (g N k n : Nat) (w : World) (e : Ending) (w' : World) : Prop := ∃ (v : Value) (F : List Lr) (A : List Value) (k' : Nat), e = .returned v ∧ OutR w.heap.size w' v F A ∧ F.length ≤ 12 ∧ n ≤ F.length ∧ (∀ f ∈ F, f.cs.length ≤ 20 ∧ (∀ s ∈ f.cs, s.length ≤ 30) ∧ f.bd.length ≤ 30) ∧ k' ≤ k + 5000 ∧ IsCur g N w' k' ∧ Bar g w w'
set_option maxRecDepth 100000 in
set_option maxHeartbeats 8000000 in
theorem rows_any (g N k cols n kind : Nat) (w : World) (h : IsCur g N w k) (hk : k ≤ 1000000) (hc : cols ≤ 20) (hn : n ≤ 11) (_hkd : kind < 3) :
    Calls Tryz.prog 56 #[.pointer (some ⟨g, 0, none⟩), .int .i64 (cols : Nat), .int .i64 (n : Nat), .int .i64 (kind : Nat)] w (RowsP g N k n w) := by
  obtain ⟨i0, hinf, hz0, hz1, hz2⟩ := info_int
  have hgw : g < w.heap.size := Nat.lt_of_lt_of_le h.1 h.2.1
  have hNw : N ≤ w.heap.size := h.2.1
  have HC := hidG h
  clear h
  go_enter Tryz.func56, Tryz.ntmps56
  go_wp2_with fail
  go_loopw [9, 10] (fun av iv wr => ∃ (j kc : Nat) (X : List Int), j ≤ cols ∧ iv = .int .i64 (j : Nat) ∧ X.length = j ∧ Ats w.heap.size wr av X ∧ kc ≤ k + 2 * j ∧ IsCur g N wr kc ∧ Bar g w wr) (fun _ iv _ => cols - (intOf iv).toNat)
  case atStart => exact ⟨0, k, [], Nat.zero_le _, rfl, rfl, ⟨World.ownsRow_nil _ _ _ _, fun x hx => by cases hx⟩, Nat.le_refl _, HC.out, Bar.refl _ _⟩
  case round =>
    rename World => wa
    obtain ⟨j, kc, X, hj, rfl, hXl, hX, hkc, hcur, hbar⟩ := hrel
    have HX := hidG hX
    have HXL := hidG hXl
    have HCUR := hidG hcur
    have HBAR := hidG hbar
    clear hX hXl hcur hbar
    by_cases hlt : j < cols
    · have z1 : decide ((j : Int) < (cols : Int)) = true := decide_eq_true (by omega)
      go_wp2_with fail
      refine (pick_any g N kc 9 _ HCUR.out (by omega) (by decide) (by decide)).mono ?_
      rintro e w3 ⟨r3, k3, rfl, hr3, hk3, hc3, hb3⟩
      have HC3 := hidG hc3
      have HB3 : Hid (Bar g w w3) := HBAR.out.trans hb3
      have HX3 := hidG (HX.out.bar hb3 hgw)
      have hown := HX3.out.1
      rw [HXL.out] at hown
      have hNx : N ≤ w3.heap.size := HC3.out.2.1
      have hws : w.heap.size ≤ w3.heap.size := HB3.out.size
      clear hc3 hb3
      go_wp2_with (at_builtin; refine wpList_append_own_at _ rfl _ _ 111 rfl w.heap.size 3 i0 (.int .i64 0) 1 8 Tryz.underlying111 hinf hz0 hz1 hz2 rfl (by decide) u9 j _ rfl (hown.alloc _) ⟨w3.heap.size, 0, none⟩ 1 1 [.int .i64 ((r3 : Int) - 4)] rfl rfl ?c1 ?c2 ?c3 ?c4 ?c5 ?_)
      case c1 =>
        intro j u hj
        match j, hj with
        | 0, hj => simp at hj; subst hj; simp [Addr.add]
      case c2 => intro u hu; simp at hu; subst hu; rfl
      case c3 => unfold maxLen; omega
      case c4 => omega
      case c5 => simp; omega
      intro v' w5 hown' hgr _ _
      have hB1 : Below w.heap.size w3 w5 := ((Below.refl _ w3).alloc hws _).grown hgr (by simp; omega) (fun k e => (hown.lt k e).1)
      have HA5 : Hid (Ats w.heap.size w5 v' (X ++ [(r3 : Int) - 4])) := by
        refine ⟨?_, fun x hx => ?_⟩
        · rw [List.length_append, HXL.out, List.map_append]; exact hown'
        · rcases List.mem_append.1 hx with h | h
          · exact HX.out.2 x h
          · simp at h; omega
      have HC5 := hidG (HC3.out.below (hB1.mono hNw))
      have HB5 : Hid (Bar g w w5) := HB3.out.then hB1
      clear hown hown' hgr hB1
      go_wp2
      go_roundw
      case rel => exact ⟨j + 1, k3, _, by omega, by go_num, by rw [List.length_append, HXL.out]; rfl, HA5.out, by omega, HC5.out, HB5.out⟩
      case measure => simp [intOf]; omega
    · have hje : j = cols := by omega
      have HXL2 : Hid (X.length = cols) := HXL.out.trans hje
      obtain ⟨pa, ca, rfl, hpa⟩ := own_form HX.out.1
      have HPA := hidG hpa
      clear hje hpa
      go_wp2_with fail
      go_loopw [11, 12] (fun tv iv wr => ∃ (m kd : Nat) (F : List Lr) (A : List Value), m ≤ n ∧ iv = .int .i64 (m : Nat) ∧ OutR wa.heap.size wr tv F A ∧ F.length = m ∧ (∀ f ∈ F, TinyR cols f) ∧ kd ≤ k + 100 + 100 * m ∧ IsCur g N wr kd ∧ Bar g wa wr) (fun _ iv _ => n - (intOf iv).toNat)
      case atStart => exact ⟨0, kc, [], [], Nat.zero_le _, rfl, OutR.nil _ _, rfl, (fun f hf => by cases hf), by omega, HCUR.out, Bar.refl _ _⟩
      case round =>
        rename World => wo
        obtain ⟨m, kd, F, A, hm, rfl, hO, hFl, hT, hkd2, hcur, hbar⟩ := hrel
        have hgwa : g < wa.heap.size := Nat.lt_of_lt_of_le hgw HBAR.out.size
        have hNwa : N ≤ wa.heap.size := HCUR.out.2.1
        have HO := hidG hO
        have HFL := hidG hFl
        have HT := hidG hT
        have HCU := hidG hcur
        have HBA := hidG hbar
        clear hFl hT hcur hbar
        by_cases hlt2 : m < n
        · obtain ⟨pv, cv, rfl⟩ := hO.form
          have z1 : decide ((m : Int) < (n : Int)) = true := decide_eq_true (by omega)
          clear hO
          go_wp2_with fail
          refine (pick_any g N kd 3 _ HCU.out (by omega) (by decide) (by decide)).mono ?_
          rintro e w3 ⟨r3, k3, rfl, hr3, hk3, hc3, hb3⟩
          have HC3 := hidG hc3
          have HB3 : Hid (Bar g wa w3) := HBA.out.trans hb3
          have HO3 := hidG (HO.out.bar hb3 hgwa)
          clear hc3 hb3
          obtain ⟨st, hst⟩ : ∃ st, ((r3 : Int) == 0) = st := ⟨_, rfl⟩
          obtain ⟨W4, hW4⟩ : ∃ W4, w3.alloc (.cells #[.slice none 0 0, .bool st, .string ⟨#[]⟩] 38) = W4 := ⟨_, rfl⟩
          have hB4 : Below w3.heap.size w3 W4 := by rw [← hW4]; exact below_alloc _ _
          have hX4 : Bx W4 w3.heap.size [.slice none 0 0, .bool st, .string ⟨#[]⟩] := by rw [← hW4]; exact bx_new w3 _ _
          have hs4 : W4.heap.size = w3.heap.size + 1 := by rw [← hW4]; simp
          have HW4 := hidG hW4
          have HS4 := hidG hs4
          have hwa3 : wa.heap.size ≤ w3.heap.size := HB3.out.size
          have hbg : w3.heap.size ≠ g := by omega
          have hgc : g < W4.heap.size := by omega
          have HBD0 : Hid (BD g N k3 wa W4 w3.heap.size (.slice none 0 0) [.bool st, .string ⟨#[]⟩] [] W4) := ⟨hX4, World.ownsRow_nil _ _ _ _, fun _ _ _ _ => rfl, Nat.le_refl _, HC3.out.below (hB4.mono HC3.out.2.1), HB3.out.trans (Bar.of hB4)⟩
          have HB4w := hidG hB4
          clear hW4 hB4 hX4 hs4
          go_wp2_with (rw [HW4.out])
          go_loopw [14, 15, 16] (fun sv iv _ wr => ∃ (i ke : Nat) (S : Int) (vq : Value) (T : List (List UInt8)), i ≤ cols ∧ iv = .int .i64 (i : Nat) ∧ sv = .int .i64 S ∧ -(16 * (i : Int)) ≤ S ∧ S ≤ 16 * (i : Int) ∧ T.length = i ∧ (∀ t ∈ T, TinyT t) ∧ ke ≤ k3 + 4 * i ∧ BD g N ke wa W4 w3.heap.size vq [.bool st, .string ⟨#[]⟩] T wr) (fun _ iv _ _ => cols - (intOf iv).toNat)
          case atStart => exact ⟨0, k3, 0, _, [], Nat.zero_le _, rfl, rfl, by decide, by decide, rfl, (fun t ht => by cases ht), Nat.le_refl _, HBD0.out⟩
          case round =>
            rename World => wi
            obtain ⟨i, ke, S, vq, T, hi, rfl, rfl, hS1, hS2, hTl, hTt, hke, hD⟩ := hrel
            have HD := hidG hD
            have HTL := hidG hTl
            have HTT := hidG hTt
            clear HBD0 hTl hTt
            by_cases hil : i < cols
            · have z3 : decide ((i : Int) < (cols : Int)) = true := decide_eq_true (by omega)
              clear hD
              go_upto_if 50 with fail
              refine (pick_any g N ke 3 _ HD.out.cur (by omega) (by decide) (by decide)).mono ?_
              rintro e w5 ⟨r5, k5, rfl, hr5, hk5, hc5, hb5⟩
              have HD5 := hidG (HD.out.step hb5 hc5 hbg hgc)
              clear hc5 hb5
              go_upto_if 50 with fail
              go_cut [16] (fun s16 wx => ∃ (a : Int) (kf : Nat), s16 = .int .i64 a ∧ -4 ≤ a ∧ a ≤ 4 ∧ kf ≤ ke + 4 ∧ BD g N kf wa W4 w3.heap.size vq [.bool st, .string ⟨#[]⟩] T wx)
              case first =>
                by_cases h0 : r5 = 0
                · have z6 : decide (0 < r5) = false := decide_eq_false (by omega)
                  have z7 : ¬ 0 < r5 := by omega
                  clear h0
                  go_wp2_with fail
                  go_meet
                  exact ⟨0, k5, rfl, by decide, by decide, by omega, HD5.out⟩
                · have z6 : decide (0 < r5) = true := decide_eq_true (by omega)
                  have z7 : 0 < r5 := by omega
                  go_wp2_with fail
                  refine (pick_any g N k5 9 _ HD5.out.cur (by omega) (by decide) (by decide)).mono ?_
                  rintro e w6 ⟨r6, k6, rfl, hr6, hk6, hc6, hb6⟩
                  have HD6 := hidG (HD5.out.step hb6 hc6 hbg hgc)
                  clear hc6 hb6
                  go_wp2_with fail
                  go_meet
                  exact ⟨(r6 : Int) - 4, k6, rfl, by omega, by omega, by omega, HD6.out⟩
              case rest =>
                obtain ⟨a, kf, rfl, ha1, ha2, hkf, hDc⟩ := hcut
                have HDc := hidG hDc
                have hiX : i < X.length := by have := HXL2.out; omega
                obtain ⟨gA, rfl⟩ : ∃ gA, pa = some ⟨gA, 0, none⟩ := by
                  have h1 := HX.out.1
                  rcases HPA.out with h2 | h2
                  · rw [h2] at h1
                    rcases h1.2 with ⟨_, e⟩ | ⟨_, _, _, e, _⟩
                    · omega
                    · cases e
                  · exact h2
                have hAc := HX.out.bar hDc.bar hgw
                have c9 : wc.cell? ⟨gA, i, none⟩ = some (.int .i64 X[i]) := by
                  have h1 := hAc.1.cellAt i (by rw [Nat.mul_one]; exact hiX)
                  rw [List.getElem?_map, List.getElem?_eq_getElem hiX] at h1
                  exact h1
                have hx4 := HX.out.2 X[i] (List.getElem_mem hiX)
                obtain ⟨x, hx⟩ : ∃ x, X[i] = x := ⟨_, rfl⟩
                rw [hx] at c9 hx4
                obtain ⟨pq, cq, rfl, -⟩ := own_form hDc.row
                have d0 := hDc.box.cell 0
                simp only [List.getElem?_cons_zero] at d0
                have hax : -16 ≤ a * x ∧ a * x ≤ 16 := by
                  obtain ⟨h1, h2⟩ := hx4
                  have hm : (a * x).natAbs ≤ 16 := by rw [Int.natAbs_mul]; exact Nat.mul_le_mul (show a.natAbs ≤ 4 by omega) (show x.natAbs ≤ 4 by omega)
                  omega
                obtain ⟨hax1, hax2⟩ := hax
                have q5b : w3.heap.size < wc.heap.size := hDc.box.lt
                have HOB : Hid (∀ b, (Value.slice pq T.length cq).ownBlock = some b → W4.heap.size ≤ b ∧ b < wc.heap.size) := fun b e => hDc.row.lt b e
                have HTC : Hid (∀ W, Calls Tryz.prog 79 #[.int .i64 a] W fun e w' => ∃ u, e = .returned (.string u) ∧ IsText a u ∧ Below W.heap.size W w') := fun W => l12Signed_any a W (by omega) (by omega)
                have i2 : (i : Int) < (X.length : Int) := by omega
                clear hDc hAc hx
                go_wp2_with fail
                go_region_law
                  (first
                    | (refine step_appS (W := w4) (t := u4) (n := T.length) (base := W4.heap.size) (v := .slice pq T.length cq) (xs := strsC T) (by rfl) _ _ (by rfl) (by rfl) HROW4.out (by rfl) HTN.out HS5.out ?_; intro g5 c5 w5 hrow5 hgr5; have HR5 := hidG hrow5; have HG5 := hidG hgr5; have hx5 := bx_grown (HX4.out.alloc _) hgr5 HNE.out; have d1 := hx5.cell 0; have e1 := hx5.frozen 0; simp only [List.getElem?_cons_zero] at d1; have HX5 := hidG hx5; clear hrow5 hgr5 hx5)
                    | (go_simp; refine (HTC.out _).mono ?_; rintro e w4 ⟨u4, rfl, hu4, hb4⟩; have HU4 := hidG hu4; have HB4 : Hid (Below wc.heap.size wc w4) := ⟨hb4.os, hb4.tape, hb4.output, hb4.size, hb4.block⟩; have HD4 := hidG (HDc.out.down HB4.out hbg hgc); have HROW4 := hidG HD4.out.row; have HS5 : Hid (W4.heap.size ≤ w4.heap.size) := HD4.out.size; have HTN : Hid (T.length ≤ 1000000000) := (by have := HTL.out; unfold Hid; omega); have HX4 := hidG HD4.out.box; have HNE : Hid ((Value.slice pq T.length cq).ownBlock ≠ some w3.heap.size) := (fun e => (by have h1 := (HOB.out _ e).1; have h2 := HS4.out; omega)); have d0 : w4.cell? ⟨w3.heap.size, 0, none⟩ = some (.slice pq T.length cq) := HX4.out.cell 0; have q3 : w3.heap.size < w4.heap.size := HX4.out.lt; clear hu4 hb4; go_wp2_with fail))
                all_goals
                  go_wp2_with fail
                  refine ⟨⟨i + 1, kf, S + a * x, .slice (some ⟨g5, 0, none⟩) (T.length + 1) c5, T ++ [u4.data.toList], by omega, by go_num, rfl, by omega, by omega, by rw [List.length_append, HTL.out]; rfl, fun t ht => ?_, by omega, HD4.out.app HG5.out HR5.out HX5.out (by have := HS4.out; omega) hwa3 hNwa⟩, by simp [intOf]; omega⟩
                  rcases List.mem_append.1 ht with h | h
                  · exact HTT.out t h
                  · simp at h
                    subst h
                    exact tiny_text HU4.out (by omega)
            · have hie : i = cols := by omega
              have HTL2 : Hid (T.length = cols) := HTL.out.trans hie
              obtain ⟨pq, cq, rfl, -⟩ := own_form hD.row
              have hSb : -400 ≤ S ∧ S ≤ 400 := by omega
              obtain ⟨hSb1, hSb2⟩ := hSb
              clear hD hie
              go_upto_if 73 with fail
              refine (pick_any g N ke 15 _ HD.out.cur (by omega) (by decide) (by decide)).mono ?_
              rintro e w5 ⟨r5, k5, rfl, hr5, hk5, hc5, hb5⟩
              have HD5 := hidG (HD.out.step hb5 hc5 hbg hgc)
              clear hc5 hb5
              go_upto_if 73 with fail
              go_cut [17] (fun s17 wx => ∃ (b : Int) (kf : Nat), s17 = .int .i64 b ∧ -1000 ≤ b ∧ b ≤ 1000 ∧ kf ≤ ke + 4 ∧ BD g N kf wa W4 w3.heap.size (.slice pq T.length cq) [.bool st, .string ⟨#[]⟩] T wx)
              case first =>
                by_cases h0 : kind = 1
                · have z6 : ((kind : Int) == 1) = true := by rw [beq_iff_eq]; omega
                  clear h0
                  go_wp2_with fail
                  refine (pick_any g N k5 4 _ HD5.out.cur (by omega) (by decide) (by decide)).mono ?_
                  rintro e w6 ⟨r6, k6, rfl, hr6, hk6, hc6, hb6⟩
                  have HD6 := hidG (HD5.out.step hb6 hc6 hbg hgc)
                  have d1 := HD6.out.box.cell 1
                  simp only [List.getElem?_cons_zero, List.getElem?_cons_succ] at d1
                  clear hc6 hb6
                  cases st with
                  | false =>
                    go_wp2_with fail
                    go_meet
                    exact ⟨S + (r6 : Int), k6, rfl, by omega, by omega, by omega, HD6.out⟩
                  | true =>
                    go_wp2_with fail
                    go_meet
                    exact ⟨S + (r6 : Int) + 1, k6, rfl, by omega, by omega, by omega, HD6.out⟩
                · have z6 : ((kind : Int) == 1) = false := by rw [beq_eq_false_iff_ne]; omega
                  clear h0
                  go_wp2_with fail
                  go_meet
                  exact ⟨(r5 : Int) - 5, k5, rfl, by omega, by omega, by omega, HD5.out⟩
              case rest =>
                obtain ⟨b, kf, rfl, hb1, hb2, hkf, hDc⟩ := hcut
                have HDc := hidG hDc
                clear hDc
                go_wp2_with fail
                refine (l12Signed_any b _ (by omega) (by omega)).mono ?_
                rintro e w7 ⟨u7, rfl, hu7, hb7⟩
                have HU7 := hidG hu7
                have HD7 := hidG (HDc.out.down hb7 hbg hgc)
                obtain ⟨d0, d1, d2⟩ := HD7.out.box.c3
                have e2 := HD7.out.box.frozen 2
                obtain ⟨ub, rfl⟩ : ∃ ub, u7 = strOf ub := ⟨u7.data.toList, (strOf_data u7).symm⟩
                have HUB : Hid (TinyT ub) := by
                  have h1 := tiny_text HU7.out (by omega)
                  rw [strOf_toList] at h1
                  exact h1
                have HD8 := hidG (HD7.out.put (.string (strOf ub)) (by have := HS4.out; omega) hwa3 hNwa)
                clear hu7 hb7
                go_wp2_with (at_builtin; refine wpList_appR (W := w7.setCell ⟨w3.heap.size, 2, none⟩ (.string (strOf ub))) (base := wa.heap.size) (F := F) (A := A) (f := (Lr.mk T st ub)) rfl _ _ rfl rfl ?own ?va ?hne _ rfl ?hH m ?hk ?hn ?hb ?_)
                case own => exact HO3.out.inBD HB4w.out hgwa (by have := HS4.out; omega) HD8.out
                case va => exact own_lower HD8.out.row (by have := HS4.out; omega)
                case hne =>
                  intro b hb a ha hab
                  obtain ⟨i, hi, rfl⟩ := List.getElem_of_mem ha
                  have h1 := own_base HD8.out.row b hb
                  have h2 := ((HO3.out.rows i hi (by rw [← HO3.out.len]; exact hi)).lt b hab).2
                  have h3 := HS4.out
                  omega
                case hH => simp
                case hk => exact HFL.out
                case hn => omega
                case hb => exact HD8.out.bar.size
                intro g5 c5 w9 hout5 hsz5 hgr5
                have HO5 := hidG hout5
                have hO8 := HO3.out.inBD HB4w.out hgwa (by have := HS4.out; omega) HD8.out
                have hbel : Below wa.heap.size (w7.setCell ⟨w3.heap.size, 2, none⟩ (.string (strOf ub))) w9 := (Below.refl _ _).grown hgr5 HD8.out.bar.size (fun b hb => (hO8.own.lt b hb).1)
                have HC9 := hidG (HD8.out.cur.below (hbel.mono hNwa))
                have HB9 : Hid (Bar g wa w9) := HD8.out.bar.then hbel
                clear hout5 hgr5 hO8 hbel
                go_wp2_with fail
                refine ⟨⟨m + 1, kf, F ++ [(Lr.mk T st ub)], A ++ [_], by omega, by go_num, HO5.out, by rw [List.length_append, HFL.out]; rfl, fun f hf => ?_, by omega, HC9.out, HB9.out⟩, by simp [intOf]; omega⟩
                rcases List.mem_append.1 hf with h | h
                · exact HT.out f h
                · simp at h
                  subst h
                  exact ⟨HTL2.out, HTT.out, HUB.out⟩
        · have hF11 : F.length ≤ 11 := by have := HFL.out; omega
          obtain ⟨pv, cv, rfl⟩ := hO.form
          have HFB : Hid (∀ f ∈ F, f.cs.length ≤ 20 ∧ (∀ s ∈ f.cs, s.length ≤ 30) ∧ f.bd.length ≤ 30) := fun f hf => by
            obtain ⟨h1, h2, h3⟩ := HT.out f hf
            exact ⟨by omega, fun s hs => (h2 s hs).1, h3.1⟩
          have hkd3 : kd ≤ k + 1400 := by omega
          clear hO
          by_cases hk2 : kind = 2
          · have z1 : ((kind : Int) == 2) = true := by rw [beq_iff_eq]; omega
            clear hk2
            by_cases hF2 : 1 < F.length
            · have z2 : decide ((1 : Int) < (F.length : Int)) = true := decide_eq_true (by omega)
              obtain ⟨l, hl⟩ : ∃ l, F.length = l + 1 := ⟨F.length - 1, by omega⟩
              obtain ⟨W4, hW4⟩ : ∃ W4, wo.alloc (.cells #[.slice none 0 0, .bool true, .string ⟨#[48]⟩] 38) = W4 := ⟨_, rfl⟩
              have hB4 : Below wo.heap.size wo W4 := by rw [← hW4]; exact below_alloc _ _
              have hX4 : Bx W4 wo.heap.size [.slice none 0 0, .bool true, .string ⟨#[48]⟩] := by rw [← hW4]; exact bx_new wo _ _
              have hs4 : W4.heap.size = wo.heap.size + 1 := by rw [← hW4]; simp
              have HW4 := hidG hW4
              have HS4 := hidG hs4
              have HB4w := hidG hB4
              have hwao : wa.heap.size ≤ wo.heap.size := HBA.out.size
              have hbg : wo.heap.size ≠ g := by omega
              have hgc : g < W4.heap.size := by omega
              have HBD0 : Hid (BD g N kd wa W4 wo.heap.size (.slice none 0 0) [.bool true, .string ⟨#[48]⟩] [] W4) := ⟨hX4, World.ownsRow_nil _ _ _ _, fun _ _ _ _ => rfl, Nat.le_refl _, HCU.out.below (hB4.mono HCU.out.2.1), HBA.out.trans (Bar.of hB4)⟩
              have HLL := hidG hl
              have z3 : decide ((1 : Int) < (l : Int) + 1) = true := decide_eq_true (by omega)
              have hl11 : l ≤ 10 := by omega
              have hl1 : 1 ≤ l := by omega
              rw [hl]
              clear hW4 hB4 hX4 hs4 hl z2 hF2 hF11
              go_wp2_with (rw [HW4.out])
              go_loopw [20] (fun iv wr => ∃ (i : Nat) (vq : Value) (T : List (List UInt8)), i ≤ cols ∧ iv = .int .i64 (i : Nat) ∧ T.length = i ∧ (∀ t ∈ T, t.length ≤ 30) ∧ BD g N kd wa W4 wo.heap.size vq [.bool true, .string ⟨#[48]⟩] T wr) (fun iv _ => cols - (intOf iv).toNat)
              case atStart => exact ⟨0, _, [], Nat.zero_le _, rfl, rfl, (fun t ht => by cases ht), HBD0.out⟩
              case round =>
                rename World => wi
                obtain ⟨i, vq, T, hi, rfl, hTl, hTt, hD⟩ := hrel
                have HD := hidG hD
                have HTL := hidG hTl
                have HTT := hidG hTt
                clear HBD0 hTl hTt hD
                have HOi := hidG (HO.out.inBD HB4w.out hgwa (by have := HS4.out; omega) HD.out)
                by_cases hil : i < cols
                · have z5 : decide ((i : Int) < (cols : Int)) = true := decide_eq_true (by omega)
                  have hl0 : 0 < F.length := by have := HLL.out; omega
                  have hll : l < F.length := by have := HLL.out; omega
                  obtain ⟨gv, cv', va, e0, hgv, a0, -, -, ra⟩ := HOi.out.cells hl0
                  simp only [Value.slice.injEq] at e0
                  obtain ⟨rfl, -, rfl⟩ := e0
                  obtain ⟨gv', cv', vb, e0, -, b0, -, -, rb⟩ := HOi.out.cells hll
                  simp only [Value.slice.injEq, Option.some.injEq, Addr.mk.injEq, and_true] at e0
                  obtain ⟨rfl, -, rfl⟩ := e0
                  have hTa := HT.out _ (List.getElem_mem hl0)
                  have hTb := HT.out _ (List.getElem_mem hll)
                  have hia : i < F[0].cs.length := by rw [hTa.1]; exact hil
                  have hib : i < F[l].cs.length := by rw [hTb.1]; exact hil
                  obtain ⟨ba, ca', rfl, hba, sa⟩ := strs_cell hTa.1 ra hia
                  obtain ⟨bb, cb', rfl, hbb, sb⟩ := strs_cell hTb.1 rb hib
                  have ta := hTa.2.1 _ (List.getElem_mem hia)
                  have tb := hTb.2.1 _ (List.getElem_mem hib)
                  obtain ⟨sA, hsA⟩ : ∃ s, F[0].cs[i] = s := ⟨_, rfl⟩
                  obtain ⟨sB, hsB⟩ : ∃ s, F[l].cs[i] = s := ⟨_, rfl⟩
                  rw [hsA] at sa ta
                  rw [hsB] at sb tb
                  rw [Nat.zero_mul] at a0
                  have HRA : Hid (∀ W, Calls Tryz.prog 49 #[.string (strOf sA)] W (ZRet (numT (strOf sA)) W)) := fun W => l1ReadZ_any sA W ta.2.1 (Nat.lt_trans ta.2.2 (by decide))
                  have HRB : Hid (∀ W, Calls Tryz.prog 49 #[.string (strOf sB)] W (ZRet (numT (strOf sB)) W)) := fun W => l1ReadZ_any sB W tb.2.1 (Nat.lt_trans tb.2.2 (by decide))
                  have hxa := ta.2.2
                  have hxb := tb.2.2
                  obtain ⟨xa, hxae⟩ : ∃ x, numT (strOf sA) = x := ⟨_, rfl⟩
                  obtain ⟨xb, hxbe⟩ : ∃ x, numT (strOf sB) = x := ⟨_, rfl⟩
                  rw [hxae] at hxa HRA
                  rw [hxbe] at hxb HRB
                  have HSC : Hid (∀ W, Below wi.heap.size wi W → W.cell? ⟨gv, 0, none⟩ = some (.slice (some ⟨ba, 0, none⟩) cols ca') ∧ W.cell? ⟨gv, l * 3, none⟩ = some (.slice (some ⟨bb, 0, none⟩) cols cb') ∧ W.cell? ⟨ba, i, none⟩ = some (.string (strOf sA)) ∧ W.cell? ⟨bb, i, none⟩ = some (.string (strOf sB))) := fun W hW =>
                    ⟨(hW.cell (p := ⟨gv, 0, none⟩) hgv).trans a0, (hW.cell (p := ⟨gv, l * 3, none⟩) hgv).trans b0, (hW.cell (p := ⟨ba, i, none⟩) hba).trans sa, (hW.cell (p := ⟨bb, i, none⟩) hbb).trans sb⟩
                  clear hTa hTb hia hib ta tb hsA hsB hxae hxbe ra rb
                  have hlI : (l : Int) < (l : Int) + 1 := by omega
                  have hiI : (i : Int) < (cols : Int) := by omega
                  have HMU : Hid (∀ W za zb (r : Nat), r < 3 → NumZ 0 W za (1 + (r : Int)) 3 → NumZ 0 W zb xb 3 → Calls Tryz.prog 78 #[za, zb] W (ZRet ((1 + (r : Int)) * xb) W)) := fun W za zb r hr h1 h2 => l1MulZ_any za zb _ _ W h1 h2 (mul_sm hr hxb)
                  have HAD : Hid (∀ W za zb (r : Nat), r < 3 → NumZ 0 W za xa 3 → NumZ 0 W zb ((1 + (r : Int)) * xb) 3 → Calls Tryz.prog 77 #[za, zb] W (ZRet (xa + (1 + (r : Int)) * xb) W)) := fun W za zb r hr h1 h2 => l1AddZ_any za zb _ _ W h1 h2 (lt_sm (add_sm hr hxa hxb))
                  go_upto_region 33 with fail
                  go_cut [21] (fun s21 wx => ∃ (G r : Nat), s21 = .pointer (some ⟨G, 0, none⟩) ∧ r < 3 ∧ ZBox wi G (xa + (1 + (r : Int)) * xb) wx)
                  case first => as_aux_lemma =>
                    refine wrh 25 rfl (S := fun W => W.cell? ⟨gv, 0, none⟩ = some (.slice (some ⟨ba, 0, none⟩) cols ca') ∧ W.cell? ⟨gv, l * 3, none⟩ = some (.slice (some ⟨bb, 0, none⟩) cols cb') ∧ W.cell? ⟨ba, i, none⟩ = some (.string (strOf sA)) ∧ W.cell? ⟨bb, i, none⟩ = some (.string (strOf sB))) (by kernel_rfl) (HSC.out _ (Below.refl wi.heap.size wi).drew) (fun hHeld => ?_)
                    iterate 7 (refine tkf 24 129 (v := ?_) rfl rfl (by kernel_rfl) (fun _ _ _ h => h) (Or.inl ⟨by rfl, ?_⟩) (by assumption) ?_; rotate_left; (intro w hSw; (try dsimp only at hSw); go_simp; (try with_reducible rfl)); (try simp only [Act.put, List.setIfInBounds_toArray, List.set_cons_zero, List.set_cons_succ]))
                    refine tk 8 113 (v := ?_) rfl rfl (by kernel_rfl) (fun _ _ _ h => h) (Or.inl ⟨by rfl, ?_⟩) (by assumption) ?_
                    rotate_left
                    · (intro w hSw; (try dsimp only at hSw); go_simp; (try with_reducible rfl))
                    (try simp only [Act.put, List.setIfInBounds_toArray, List.set_cons_zero, List.set_cons_succ])
                    iterate 8 (refine tkf 28 133 (v := ?_) rfl rfl (by kernel_rfl) (fun _ _ _ h => h) (Or.inl ⟨by rfl, ?_⟩) (by assumption) ?_; rotate_left; (intro w hSw; (try dsimp only at hSw); go_simp; (try with_reducible rfl)); (try simp only [Act.put, List.setIfInBounds_toArray, List.set_cons_zero, List.set_cons_succ]))
                    have HND : True := trivial
                    first | (have hND := HND; clear hND; refine wpAnyH_ready (rs := [7, 23]) (by kernel_rfl) (by simp) ?_; refine AllReadyH.cons rfl (fun K hK => ?_) (AllReadyH.cons rfl (fun K hK => ?_) AllReadyH.nil); rotate_left; clear HND; go_simp; refine hK.out _ _ (HSC.out _ (by first | with_reducible exact (Below.refl _ _).drew | exact (below_alloc _ _).drew | exact up_alloc (Below.refl _ _).drew _)) (fun hHA => ?_); clear hK K; (try simp only [Act.put, List.setIfInBounds_toArray, List.set_cons_zero, List.set_cons_succ]); refine wpAnyH_ready (rs := [7]) (by kernel_rfl) (by simp) ?_; refine AllReadyH.cons rfl (fun K hK => ?_) AllReadyH.nil; rotate_left) | (refine wpAnyH_ready (rs := [7]) (by kernel_rfl) (by simp) ?_; refine AllReadyH.cons rfl (fun K hK => ?_) AllReadyH.nil)
                    all_goals as_aux_lemma =>
                      go_simp
                      go_at_call 49
                      refine (HRA.out _).mono ?_
                      rintro e w1 ⟨p0, p1, p2, p3, p4, rfl, hz, hb⟩
                      have HZ1 := hidG hz
                      have HB1 : Hid (Below wi.heap.size wi w1) := below_then (by first | with_reducible exact (Below.refl _ _).drew | exact (below_alloc _ _).drew | exact up_alloc (Below.refl _ _).drew _) hb
                      (first | have HG1 := hidG (zx_nd hb) | skip)
                      clear hz hb
                      go_wp2_with fail
                      refine hK.out _ _ (HSC.out _ HB1.out) (fun hHC1 => ?_)
                      clear hK K
                      (try simp only [Act.put, List.setIfInBounds_toArray, List.set_cons_zero, List.set_cons_succ])
                      first | (have hND := HND; clear hND; refine wpAnyH_ready (rs := [9, 23]) (by kernel_rfl) (by simp) ?_; refine AllReadyH.cons rfl (fun K hK => ?_) (AllReadyH.cons rfl (fun K hK => ?_) AllReadyH.nil); rotate_left; clear HND; go_simp; refine hK.out _ _ (HSC.out _ (by first | with_reducible exact HB1.out | exact up_alloc HB1.out _)) (fun hHA => ?_); clear hK K; (try simp only [Act.put, List.setIfInBounds_toArray, List.set_cons_zero, List.set_cons_succ]); refine wpAnyH_ready (rs := [9]) (by kernel_rfl) (by simp) ?_; refine AllReadyH.cons rfl (fun K hK => ?_) AllReadyH.nil; rotate_left) | (refine wpAnyH_ready (rs := [9]) (by kernel_rfl) (by simp) ?_; refine AllReadyH.cons rfl (fun K hK => ?_) AllReadyH.nil)
                      all_goals as_aux_lemma =>
                        go_simp
                        go_at_call 80
                        refine (l12Mod_any l _ (by omega)).mono ?_
                        rintro e w9 ⟨r, rfl, hr, rfl⟩
                        have hwr : IntKind.i64.wrap (1 + (r : Int)) = 1 + (r : Int) := wrap_id _ (by omega) (by omega)
                        go_wp2_with fail
                        refine hK.out _ _ (HSC.out _ (by first | with_reducible exact HB1.out | exact up_alloc HB1.out _)) (fun hHM => ?_)
                        clear hK K
                        (try simp only [Act.put, List.setIfInBounds_toArray, List.set_cons_zero, List.set_cons_succ])
                        refine tk 10 115 (v := ?_) rfl rfl (by kernel_rfl) (fun _ _ _ h => h) (Or.inl ⟨by rfl, ?_⟩) (by assumption) ?_
                        rotate_left
                        · (intro w hSw; (try dsimp only at hSw); go_simp; (try with_reducible rfl))
                        (try simp only [Act.put, List.setIfInBounds_toArray, List.set_cons_zero, List.set_cons_succ])
                        first | (have hND := HND; clear hND; refine wpAnyH_ready (rs := [11, 23]) (by kernel_rfl) (by simp) ?_; refine AllReadyH.cons rfl (fun K hK => ?_) (AllReadyH.cons rfl (fun K hK => ?_) AllReadyH.nil); rotate_left; clear HND; go_simp; refine hK.out _ _ (HSC.out _ (by first | with_reducible exact HB1.out | exact up_alloc HB1.out _)) (fun hHA => ?_); clear hK K; (try simp only [Act.put, List.setIfInBounds_toArray, List.set_cons_zero, List.set_cons_succ]); refine wpAnyH_ready (rs := [11]) (by kernel_rfl) (by simp) ?_; refine AllReadyH.cons rfl (fun K hK => ?_) AllReadyH.nil; rotate_left) | (refine wpAnyH_ready (rs := [11]) (by kernel_rfl) (by simp) ?_; refine AllReadyH.cons rfl (fun K hK => ?_) AllReadyH.nil)
                        all_goals as_aux_lemma =>
                          go_simp
                          go_at_call 21
                          refine (l1SmallZ_any (1 + (r : Int)) _ (by omega) (by omega)).mono ?_
                          rintro e w2 ⟨q0, q1, q2, q3, q4, rfl, hz, hb⟩
                          have HZ2 := hidG hz
                          have HB12 : Hid (Below w1.heap.size w1 w2) := below_then (by first | with_reducible exact Below.refl _ _ | exact below_alloc _ _) hb
                          have HB2 : Hid (Below wi.heap.size wi w2) := below_then HB1.out HB12.out
                          (first | have HG2 := hidG (zx_na hb) | have HG2 := hidG (HG1.out.below HG1.out.lt hb) | skip)
                          clear hz hb
                          go_wp2_with fail
                          refine hK.out _ _ (HSC.out _ HB2.out) (fun hHC2 => ?_)
                          clear hK K
                          (try simp only [Act.put, List.setIfInBounds_toArray, List.set_cons_zero, List.set_cons_succ])
                          first | (have hND := HND; clear hND; refine wpAnyH_ready (rs := [20, 23]) (by kernel_rfl) (by simp) ?_; refine AllReadyH.cons rfl (fun K hK => ?_) (AllReadyH.cons rfl (fun K hK => ?_) AllReadyH.nil); rotate_left; clear HND; go_simp; refine hK.out _ _ (HSC.out _ (by first | with_reducible exact HB2.out | exact up_alloc HB2.out _)) (fun hHA => ?_); clear hK K; (try simp only [Act.put, List.setIfInBounds_toArray, List.set_cons_zero, List.set_cons_succ]); refine wpAnyH_ready (rs := [20]) (by kernel_rfl) (by simp) ?_; refine AllReadyH.cons rfl (fun K hK => ?_) AllReadyH.nil; rotate_left) | (refine wpAnyH_ready (rs := [20]) (by kernel_rfl) (by simp) ?_; refine AllReadyH.cons rfl (fun K hK => ?_) AllReadyH.nil)
                          all_goals as_aux_lemma =>
                            go_simp
                            go_at_call 49
                            refine (HRB.out _).mono ?_
                            rintro e w3 ⟨o0, o1, o2, o3, o4, rfl, hz, hb⟩
                            have HZ3 := hidG hz
                            have HB23 : Hid (Below w2.heap.size w2 w3) := below_then (by first | with_reducible exact Below.refl _ _ | exact below_alloc _ _) hb
                            have HB3 : Hid (Below wi.heap.size wi w3) := below_then HB2.out HB23.out
                            (first | have HG3 := hidG (zx_na hb) | have HG3 := hidG (HG2.out.below HG2.out.lt hb) | skip)
                            clear hz hb
                            go_wp2_with fail
                            refine hK.out _ _ (HSC.out _ HB3.out) (fun hHC3 => ?_)
                            clear hK K
                            (try simp only [Act.put, List.setIfInBounds_toArray, List.set_cons_zero, List.set_cons_succ])
                            first | (have hND := HND; clear hND; refine wpAnyH_ready (rs := [21, 23]) (by kernel_rfl) (by simp) ?_; refine AllReadyH.cons rfl (fun K hK => ?_) (AllReadyH.cons rfl (fun K hK => ?_) AllReadyH.nil); rotate_left; clear HND; go_simp; refine hK.out _ _ (HSC.out _ (by first | with_reducible exact HB3.out | exact up_alloc HB3.out _)) (fun hHA => ?_); clear hK K; (try simp only [Act.put, List.setIfInBounds_toArray, List.set_cons_zero, List.set_cons_succ]); refine wpAnyH_ready (rs := [21]) (by kernel_rfl) (by simp) ?_; refine AllReadyH.cons rfl (fun K hK => ?_) AllReadyH.nil; rotate_left) | (refine wpAnyH_ready (rs := [21]) (by kernel_rfl) (by simp) ?_; refine AllReadyH.cons rfl (fun K hK => ?_) AllReadyH.nil)
                            all_goals as_aux_lemma =>
                              go_simp
                              go_at_call 78
                              refine (HMU.out _ _ _ r hr (HZ2.out.below (below_then HB23.out (by first | with_reducible exact Below.refl _ _ | exact below_alloc _ _))) (HZ3.out.below (by first | with_reducible exact Below.refl _ _ | exact below_alloc _ _))).mono ?_
                              rintro e w4 ⟨m0, m1, m2, m3, m4, rfl, hz, hb⟩
                              have HZ4 := hidG hz
                              have HB34 : Hid (Below w3.heap.size w3 w4) := below_then (by first | with_reducible exact Below.refl _ _ | exact below_alloc _ _) hb
                              have HB4 : Hid (Below wi.heap.size wi w4) := below_then HB3.out HB34.out
                              (first | have HG4 := hidG (zx_na hb) | have HG4 := hidG (HG3.out.below HG3.out.lt hb) | skip)
                              clear hz hb
                              go_wp2_with fail
                              refine hK.out _ _ (HSC.out _ HB4.out) (fun hHC4 => ?_)
                              clear hK K
                              (try simp only [Act.put, List.setIfInBounds_toArray, List.set_cons_zero, List.set_cons_succ])
                              first | (have hND := HND; clear hND; refine wpAnyH_ready (rs := [22, 23]) (by kernel_rfl) (by simp) ?_; refine AllReadyH.cons rfl (fun K hK => ?_) (AllReadyH.cons rfl (fun K hK => ?_) AllReadyH.nil); rotate_left; clear HND; go_simp; refine hK.out _ _ (HSC.out _ (by first | with_reducible exact HB4.out | exact up_alloc HB4.out _)) (fun hHA => ?_); clear hK K; (try simp only [Act.put, List.setIfInBounds_toArray, List.set_cons_zero, List.set_cons_succ]); refine wpAnyH_ready (rs := [22]) (by kernel_rfl) (by simp) ?_; refine AllReadyH.cons rfl (fun K hK => ?_) AllReadyH.nil; rotate_left) | (refine wpAnyH_ready (rs := [22]) (by kernel_rfl) (by simp) ?_; refine AllReadyH.cons rfl (fun K hK => ?_) AllReadyH.nil)
                              all_goals as_aux_lemma =>
                                go_simp
                                go_at_call 77
                                refine (HAD.out _ _ _ r hr (HZ1.out.below (below_then HB12.out (below_then HB23.out (below_then HB34.out (by first | with_reducible exact Below.refl _ _ | exact below_alloc _ _))))) (HZ4.out.below (by first | with_reducible exact Below.refl _ _ | exact below_alloc _ _))).mono ?_
                                rintro e w5 ⟨y0, y1, y2, y3, y4, rfl, hz, hb⟩
                                have HZ5 := hidG hz
                                have HB45 : Hid (Below w4.heap.size w4 w5) := below_then (by first | with_reducible exact Below.refl _ _ | exact below_alloc _ _) hb
                                have HB5 : Hid (Below wi.heap.size wi w5) := below_then HB4.out HB45.out
                                (first | have HG5 := hidG (zx_na hb) | have HG5 := hidG (HG4.out.below HG4.out.lt hb) | skip)
                                clear hz hb
                                go_wp2_with fail
                                refine hK.out _ _ (HSC.out _ HB5.out) (fun hHC5 => ?_)
                                clear hK K
                                (try simp only [Act.put, List.setIfInBounds_toArray, List.set_cons_zero, List.set_cons_succ])
                                first | (have hND := HND; clear hND; refine wpAnyH_ready (rs := [23]) (by kernel_rfl) (by simp) ?_; refine AllReadyH.cons rfl (fun K hK => ?_) AllReadyH.nil; go_simp; refine hK.out _ _ (HSC.out _ (up_alloc HB5.out _)) (fun hHA => ?_); clear hK K; (try simp only [Act.put, List.setIfInBounds_toArray, List.set_cons_zero, List.set_cons_succ]); refine wpAnyH_ready (rs := [24]) (by kernel_rfl) (by simp) ?_; refine AllReadyH.cons rfl (fun K hK => ?_) AllReadyH.nil) | (refine wpAnyH_ready (rs := [24]) (by kernel_rfl) (by simp) ?_; refine AllReadyH.cons rfl (fun K hK => ?_) AllReadyH.nil)
                                all_goals
                                  (try (obtain ⟨c0, c1, c2⟩ := HG5.out.c3; have f0 := HG5.out.frozen 0; have f1 := HG5.out.frozen 1; have f2 := HG5.out.frozen 2))
                                  go_simp
                                  go_wp2_with fail
                                  refine hK.out _ _ (HSC.out _ ?_) (fun hHS => ?_)
                                  · first | with_reducible exact up_alloc HB5.out _ | exact low3 HB5.out (by first | exact Nat.le_refl _ | exact HB1.out.size | exact HB2.out.size | exact HB3.out.size | exact HB4.out.size) _ _ _
                                  clear hK K
                                  (try simp only [Act.put, List.setIfInBounds_toArray, List.set_cons_zero, List.set_cons_succ])
                                  refine wpAnyH_done (by kernel_rfl) ?_ _
                                  go_wp2_with fail
                                  go_meet
                                  first | exact ⟨_, r, rfl, hr, zbox_set HG5.out HZ5.out HB5.out (by first | exact Nat.le_refl _ | exact HB1.out.size | exact HB2.out.size | exact HB3.out.size | exact HB4.out.size)⟩ | exact ⟨_, r, rfl, hr, zbox_new HZ5.out HB5.out⟩
                  case rest =>
                    obtain ⟨G, r, rfl, hr, z0, zn, za, zl, zc, hbx, hz, hG, hbw⟩ := hcut
                    have hxs := add_sm hr hxa hxb
                    obtain ⟨x, hx⟩ : ∃ x, xa + (1 + (r : Int)) * xb = x := ⟨_, rfl⟩
                    rw [hx] at hxs hz
                    have HZ := hidG hz
                    have HBX := hidG hbx
                    have HDw := hidG (HD.out.down hbw hbg hgc)
                    obtain ⟨pq, cq, rfl, -⟩ := own_form HDw.out.row
                    have d0 := HDw.out.box.cell 0
                    simp only [List.getElem?_cons_zero] at d0
                    obtain ⟨g0, g1, g2⟩ := hbx.c3
                    have hgG : G < wc.heap.size := hbx.lt
                    have HMI : Hid (∀ W, Below wc.heap.size wc W → Calls Tryz.prog 43 #[.agg #[.int .i64 z0, .bool zn, .slice za zl zc]] W (ZRet (-x) W)) := fun W hW => l1MinusZ_any _ x W (HZ.out.below hW) (lt_sm hxs)
                    have HTE : Hid (∀ W z, NumZ 0 W z (-x) 3 → Calls Tryz.prog 41 #[z] W fun e w' => ∃ u, e = .returned (.string u) ∧ IsText (-x) u ∧ Below W.heap.size W w') := fun W z hz => l1TextN_any 0 z (-x) 3 W (Nat.zero_le _) hz (by decide)
                    have q5b : wo.heap.size < wc.heap.size := HDw.out.box.lt
                    have HOB : Hid (∀ b, (Value.slice pq T.length cq).ownBlock = some b → W4.heap.size ≤ b ∧ b < wc.heap.size) := fun b e => HDw.out.row.lt b e
                    clear hbx hz hbw hx
                    go_wp2_with fail
                    go_region_law
                      (first
                        | (refine step_appS (W := w6) (t := u6) (n := T.length) (base := W4.heap.size) (v := .slice pq T.length cq) (xs := strsC T) (by rfl) _ _ (by rfl) (by rfl) HROW6.out (by rfl) HTN.out HS6.out ?_; intro g7 c7 w7 hrow7 hgr7; have HR7 := hidG hrow7; have HG7 := hidG hgr7; have hx7 := bx_grown (HX6.out.alloc _) hgr7 HNE.out; have d1 := hx7.cell 0; have e1 := hx7.frozen 0; simp only [List.getElem?_cons_zero] at d1; have HX7 := hidG hx7; clear hrow7 hgr7 hx7)
                        | (go_simp; refine (HMI.out _ (Below.refl _ _).drew).mono ?_; rintro e w5 ⟨p0, p1, p2, p3, p4, rfl, hz5, hb5⟩; have HZ5 := hidG hz5; have HB5 : Hid (Below wc.heap.size wc w5) := below_then (Below.refl _ _).drew hb5; have d0 : w5.cell? ⟨wo.heap.size, 0, none⟩ = some (.slice pq T.length cq) := (HDw.out.down HB5.out hbg hgc).box.cell 0; have q5 : wo.heap.size < w5.heap.size := Nat.lt_of_lt_of_le q5b HB5.out.size; clear hz5 hb5; go_wp2_with fail)
                        | (go_simp; refine (HTE.out _ _ HZ5.out).mono ?_; rintro e w6 ⟨u6, rfl, hu6, hb6⟩; have HU6 := hidG hu6; have HB6 : Hid (Below wc.heap.size wc w6) := below_then HB5.out hb6; have HD6 := hidG (HDw.out.down HB6.out hbg hgc); have HROW6 := hidG HD6.out.row; have HS6 : Hid (W4.heap.size ≤ w6.heap.size) := HD6.out.size; have HTN : Hid (T.length ≤ 1000000000) := (by have := HTL.out; unfold Hid; omega); have HX6 := hidG HD6.out.box; have HNE : Hid ((Value.slice pq T.length cq).ownBlock ≠ some wo.heap.size) := (fun e => (by have h1 := (HOB.out _ e).1; have h2 := HS4.out; omega)); have d0 : w6.cell? ⟨wo.heap.size, 0, none⟩ = some (.slice pq T.length cq) := HX6.out.cell 0; have q6 : wo.heap.size < w6.heap.size := HX6.out.lt; clear hu6 hb6; go_wp2_with fail))
                    all_goals
                      go_wp2_with fail
                      refine ⟨⟨i + 1, .slice (some ⟨g7, 0, none⟩) (T.length + 1) c7, T ++ [u6.data.toList], by omega, by go_num, by rw [List.length_append, HTL.out]; rfl, fun t ht => ?_, HD6.out.app HG7.out HR7.out HX7.out (by have := HS4.out; omega) hwao hNwa⟩, by simp [intOf]; omega⟩
                      rcases List.mem_append.1 ht with h | h
                      · exact HTT.out t h
                      · simp at h
                        subst h
                        have h3 := text_short (K := 16) HU6.out (by rw [Int.natAbs_neg]; exact hxs)
                        have h4 : u6.data.toList.length = u6.size := by simp
                        omega
                · have hie : i = cols := by omega
                  have HTL2 : Hid (T.length = cols) := HTL.out.trans hie
                  have hl0 : 0 < F.length := by have := HLL.out; omega
                  have hll : l < F.length := by have := HLL.out; omega
                  obtain ⟨gv, cv', va, e0, hgv, -, -, a0, -⟩ := HOi.out.cells hl0
                  simp only [Value.slice.injEq] at e0
                  obtain ⟨rfl, -, rfl⟩ := e0
                  obtain ⟨gv', cv', vb, e0, -, -, -, b0, -⟩ := HOi.out.cells hll
                  simp only [Value.slice.injEq, Option.some.injEq, Addr.mk.injEq, and_true] at e0
                  obtain ⟨rfl, -, rfl⟩ := e0
                  have ta := (HT.out _ (List.getElem_mem hl0)).2.2
                  have tb := (HT.out _ (List.getElem_mem hll)).2.2
                  obtain ⟨sA, hsA⟩ : ∃ s, F[0].bd = s := ⟨_, rfl⟩
                  obtain ⟨sB, hsB⟩ : ∃ s, F[l].bd = s := ⟨_, rfl⟩
                  rw [hsA] at a0 ta
                  rw [hsB] at b0 tb
                  rw [Nat.zero_mul, Nat.zero_add] at a0
                  have HRA : Hid (∀ W, Calls Tryz.prog 49 #[.string (strOf sA)] W (ZRet (numT (strOf sA)) W)) := fun W => l1ReadZ_any sA W ta.2.1 (Nat.lt_trans ta.2.2 (by decide))
                  have HRB : Hid (∀ W, Calls Tryz.prog 49 #[.string (strOf sB)] W (ZRet (numT (strOf sB)) W)) := fun W => l1ReadZ_any sB W tb.2.1 (Nat.lt_trans tb.2.2 (by decide))
                  have hxa := ta.2.2
                  have hxb := tb.2.2
                  obtain ⟨xa, hxae⟩ : ∃ x, numT (strOf sA) = x := ⟨_, rfl⟩
                  obtain ⟨xb, hxbe⟩ : ∃ x, numT (strOf sB) = x := ⟨_, rfl⟩
                  rw [hxae] at hxa HRA
                  rw [hxbe] at hxb HRB
                  have HSC : Hid (∀ W, Below wi.heap.size wi W → W.cell? ⟨gv, 2, none⟩ = some (.string (strOf sA)) ∧ W.cell? ⟨gv, l * 3 + 2, none⟩ = some (.string (strOf sB))) := fun W hW =>
                    ⟨(hW.cell (p := ⟨gv, 2, none⟩) hgv).trans a0, (hW.cell (p := ⟨gv, l * 3 + 2, none⟩) hgv).trans b0⟩
                  have hlI : (l : Int) < (l : Int) + 1 := by omega
                  have HMU : Hid (∀ W za zb (r : Nat), r < 3 → NumZ 0 W za (1 + (r : Int)) 3 → NumZ 0 W zb xb 3 → Calls Tryz.prog 78 #[za, zb] W (ZRet ((1 + (r : Int)) * xb) W)) := fun W za zb r hr h1 h2 => l1MulZ_any za zb _ _ W h1 h2 (mul_sm hr hxb)
                  have HAD : Hid (∀ W za zb (r : Nat), r < 3 → NumZ 0 W za xa 3 → NumZ 0 W zb ((1 + (r : Int)) * xb) 3 → Calls Tryz.prog 77 #[za, zb] W (ZRet (xa + (1 + (r : Int)) * xb) W)) := fun W za zb r hr h1 h2 => l1AddZ_any za zb _ _ W h1 h2 (lt_sm (add_sm hr hxa hxb))
                  clear ta tb hsA hsB hxae hxbe hie
                  go_upto_region 35 with fail
                  go_cut [22] (fun s22 wx => ∃ (G r : Nat), s22 = .pointer (some ⟨G, 0, none⟩) ∧ r < 3 ∧ ZBox wi G (xa + (1 + (r : Int)) * xb) wx)
                  case first => as_aux_lemma =>
                    refine wrh 19 rfl (S := fun W => W.cell? ⟨gv, 2, none⟩ = some (.string (strOf sA)) ∧ W.cell? ⟨gv, l * 3 + 2, none⟩ = some (.string (strOf sB))) (by kernel_rfl) (HSC.out _ (Below.refl wi.heap.size wi).drew) (fun hHeld => ?_)
                    iterate 4 (refine tkf 18 154 (v := ?_) rfl rfl (by kernel_rfl) (fun _ _ _ h => h) (Or.inl ⟨by rfl, ?_⟩) (by assumption) ?_; rotate_left; (intro w hSw; (try dsimp only at hSw); go_simp; (try with_reducible rfl)); (try simp only [Act.put, List.setIfInBounds_toArray, List.set_cons_zero, List.set_cons_succ]))
                    refine tk 5 141 (v := ?_) rfl rfl (by kernel_rfl) (fun _ _ _ h => h) (Or.inl ⟨by rfl, ?_⟩) (by assumption) ?_
                    rotate_left
                    · (intro w hSw; (try dsimp only at hSw); go_simp; (try with_reducible rfl))
                    (try simp only [Act.put, List.setIfInBounds_toArray, List.set_cons_zero, List.set_cons_succ])
                    iterate 5 (refine tkf 22 158 (v := ?_) rfl rfl (by kernel_rfl) (fun _ _ _ h => h) (Or.inl ⟨by rfl, ?_⟩) (by assumption) ?_; rotate_left; (intro w hSw; (try dsimp only at hSw); go_simp; (try with_reducible rfl)); (try simp only [Act.put, List.setIfInBounds_toArray, List.set_cons_zero, List.set_cons_succ]))
                    have HND : True := trivial
                    first | (have hND := HND; clear hND; refine wpAnyH_ready (rs := [4, 17]) (by kernel_rfl) (by simp) ?_; refine AllReadyH.cons rfl (fun K hK => ?_) (AllReadyH.cons rfl (fun K hK => ?_) AllReadyH.nil); rotate_left; clear HND; go_simp; refine hK.out _ _ (HSC.out _ (by first | with_reducible exact (Below.refl _ _).drew | exact (below_alloc _ _).drew | exact up_alloc (Below.refl _ _).drew _)) (fun hHA => ?_); clear hK K; (try simp only [Act.put, List.setIfInBounds_toArray, List.set_cons_zero, List.set_cons_succ]); refine wpAnyH_ready (rs := [4]) (by kernel_rfl) (by simp) ?_; refine AllReadyH.cons rfl (fun K hK => ?_) AllReadyH.nil; rotate_left) | (refine wpAnyH_ready (rs := [4]) (by kernel_rfl) (by simp) ?_; refine AllReadyH.cons rfl (fun K hK => ?_) AllReadyH.nil)
                    all_goals as_aux_lemma =>
                      go_simp
                      go_at_call 49
                      refine (HRA.out _).mono ?_
                      rintro e w1 ⟨p0, p1, p2, p3, p4, rfl, hz, hb⟩
                      have HZ1 := hidG hz
                      have HB1 : Hid (Below wi.heap.size wi w1) := below_then (by first | with_reducible exact (Below.refl _ _).drew | exact (below_alloc _ _).drew | exact up_alloc (Below.refl _ _).drew _) hb
                      (first | have HG1 := hidG (zx_nd hb) | skip)
                      clear hz hb
                      go_wp2_with fail
                      refine hK.out _ _ (HSC.out _ HB1.out) (fun hHC1 => ?_)
                      clear hK K
                      (try simp only [Act.put, List.setIfInBounds_toArray, List.set_cons_zero, List.set_cons_succ])
                      first | (have hND := HND; clear hND; refine wpAnyH_ready (rs := [6, 17]) (by kernel_rfl) (by simp) ?_; refine AllReadyH.cons rfl (fun K hK => ?_) (AllReadyH.cons rfl (fun K hK => ?_) AllReadyH.nil); rotate_left; clear HND; go_simp; refine hK.out _ _ (HSC.out _ (by first | with_reducible exact HB1.out | exact up_alloc HB1.out _)) (fun hHA => ?_); clear hK K; (try simp only [Act.put, List.setIfInBounds_toArray, List.set_cons_zero, List.set_cons_succ]); refine wpAnyH_ready (rs := [6]) (by kernel_rfl) (by simp) ?_; refine AllReadyH.cons rfl (fun K hK => ?_) AllReadyH.nil; rotate_left) | (refine wpAnyH_ready (rs := [6]) (by kernel_rfl) (by simp) ?_; refine AllReadyH.cons rfl (fun K hK => ?_) AllReadyH.nil)
                      all_goals as_aux_lemma =>
                        go_simp
                        go_at_call 80
                        refine (l12Mod_any l _ (by omega)).mono ?_
                        rintro e w9 ⟨r, rfl, hr, rfl⟩
                        have hwr : IntKind.i64.wrap (1 + (r : Int)) = 1 + (r : Int) := wrap_id _ (by omega) (by omega)
                        go_wp2_with fail
                        refine hK.out _ _ (HSC.out _ (by first | with_reducible exact HB1.out | exact up_alloc HB1.out _)) (fun hHM => ?_)
                        clear hK K
                        (try simp only [Act.put, List.setIfInBounds_toArray, List.set_cons_zero, List.set_cons_succ])
                        refine tk 7 143 (v := ?_) rfl rfl (by kernel_rfl) (fun _ _ _ h => h) (Or.inl ⟨by rfl, ?_⟩) (by assumption) ?_
                        rotate_left
                        · (intro w hSw; (try dsimp only at hSw); go_simp; (try with_reducible rfl))
                        (try simp only [Act.put, List.setIfInBounds_toArray, List.set_cons_zero, List.set_cons_succ])
                        first | (have hND := HND; clear hND; refine wpAnyH_ready (rs := [8, 17]) (by kernel_rfl) (by simp) ?_; refine AllReadyH.cons rfl (fun K hK => ?_) (AllReadyH.cons rfl (fun K hK => ?_) AllReadyH.nil); rotate_left; clear HND; go_simp; refine hK.out _ _ (HSC.out _ (by first | with_reducible exact HB1.out | exact up_alloc HB1.out _)) (fun hHA => ?_); clear hK K; (try simp only [Act.put, List.setIfInBounds_toArray, List.set_cons_zero, List.set_cons_succ]); refine wpAnyH_ready (rs := [8]) (by kernel_rfl) (by simp) ?_; refine AllReadyH.cons rfl (fun K hK => ?_) AllReadyH.nil; rotate_left) | (refine wpAnyH_ready (rs := [8]) (by kernel_rfl) (by simp) ?_; refine AllReadyH.cons rfl (fun K hK => ?_) AllReadyH.nil)
                        all_goals as_aux_lemma =>
                          go_simp
                          go_at_call 21
                          refine (l1SmallZ_any (1 + (r : Int)) _ (by omega) (by omega)).mono ?_
                          rintro e w2 ⟨q0, q1, q2, q3, q4, rfl, hz, hb⟩
                          have HZ2 := hidG hz
                          have HB12 : Hid (Below w1.heap.size w1 w2) := below_then (by first | with_reducible exact Below.refl _ _ | exact below_alloc _ _) hb
                          have HB2 : Hid (Below wi.heap.size wi w2) := below_then HB1.out HB12.out
                          (first | have HG2 := hidG (zx_na hb) | have HG2 := hidG (HG1.out.below HG1.out.lt hb) | skip)
                          clear hz hb
                          go_wp2_with fail
                          refine hK.out _ _ (HSC.out _ HB2.out) (fun hHC2 => ?_)
                          clear hK K
                          (try simp only [Act.put, List.setIfInBounds_toArray, List.set_cons_zero, List.set_cons_succ])
                          first | (have hND := HND; clear hND; refine wpAnyH_ready (rs := [14, 17]) (by kernel_rfl) (by simp) ?_; refine AllReadyH.cons rfl (fun K hK => ?_) (AllReadyH.cons rfl (fun K hK => ?_) AllReadyH.nil); rotate_left; clear HND; go_simp; refine hK.out _ _ (HSC.out _ (by first | with_reducible exact HB2.out | exact up_alloc HB2.out _)) (fun hHA => ?_); clear hK K; (try simp only [Act.put, List.setIfInBounds_toArray, List.set_cons_zero, List.set_cons_succ]); refine wpAnyH_ready (rs := [14]) (by kernel_rfl) (by simp) ?_; refine AllReadyH.cons rfl (fun K hK => ?_) AllReadyH.nil; rotate_left) | (refine wpAnyH_ready (rs := [14]) (by kernel_rfl) (by simp) ?_; refine AllReadyH.cons rfl (fun K hK => ?_) AllReadyH.nil)
                          all_goals as_aux_lemma =>
                            go_simp
                            go_at_call 49
                            refine (HRB.out _).mono ?_
                            rintro e w3 ⟨o0, o1, o2, o3, o4, rfl, hz, hb⟩
                            have HZ3 := hidG hz
                            have HB23 : Hid (Below w2.heap.size w2 w3) := below_then (by first | with_reducible exact Below.refl _ _ | exact below_alloc _ _) hb
                            have HB3 : Hid (Below wi.heap.size wi w3) := below_then HB2.out HB23.out
                            (first | have HG3 := hidG (zx_na hb) | have HG3 := hidG (HG2.out.below HG2.out.lt hb) | skip)
                            clear hz hb
                            go_wp2_with fail
                            refine hK.out _ _ (HSC.out _ HB3.out) (fun hHC3 => ?_)
                            clear hK K
                            (try simp only [Act.put, List.setIfInBounds_toArray, List.set_cons_zero, List.set_cons_succ])
                            first | (have hND := HND; clear hND; refine wpAnyH_ready (rs := [15, 17]) (by kernel_rfl) (by simp) ?_; refine AllReadyH.cons rfl (fun K hK => ?_) (AllReadyH.cons rfl (fun K hK => ?_) AllReadyH.nil); rotate_left; clear HND; go_simp; refine hK.out _ _ (HSC.out _ (by first | with_reducible exact HB3.out | exact up_alloc HB3.out _)) (fun hHA => ?_); clear hK K; (try simp only [Act.put, List.setIfInBounds_toArray, List.set_cons_zero, List.set_cons_succ]); refine wpAnyH_ready (rs := [15]) (by kernel_rfl) (by simp) ?_; refine AllReadyH.cons rfl (fun K hK => ?_) AllReadyH.nil; rotate_left) | (refine wpAnyH_ready (rs := [15]) (by kernel_rfl) (by simp) ?_; refine AllReadyH.cons rfl (fun K hK => ?_) AllReadyH.nil)
                            all_goals as_aux_lemma =>
                              go_simp
                              go_at_call 78
                              refine (HMU.out _ _ _ r hr (HZ2.out.below (below_then HB23.out (by first | with_reducible exact Below.refl _ _ | exact below_alloc _ _))) (HZ3.out.below (by first | with_reducible exact Below.refl _ _ | exact below_alloc _ _))).mono ?_
                              rintro e w4 ⟨m0, m1, m2, m3, m4, rfl, hz, hb⟩
                              have HZ4 := hidG hz
                              have HB34 : Hid (Below w3.heap.size w3 w4) := below_then (by first | with_reducible exact Below.refl _ _ | exact below_alloc _ _) hb
                              have HB4 : Hid (Below wi.heap.size wi w4) := below_then HB3.out HB34.out
                              (first | have HG4 := hidG (zx_na hb) | have HG4 := hidG (HG3.out.below HG3.out.lt hb) | skip)
                              clear hz hb
                              go_wp2_with fail
                              refine hK.out _ _ (HSC.out _ HB4.out) (fun hHC4 => ?_)
                              clear hK K
                              (try simp only [Act.put, List.setIfInBounds_toArray, List.set_cons_zero, List.set_cons_succ])
                              first | (have hND := HND; clear hND; refine wpAnyH_ready (rs := [16, 17]) (by kernel_rfl) (by simp) ?_; refine AllReadyH.cons rfl (fun K hK => ?_) (AllReadyH.cons rfl (fun K hK => ?_) AllReadyH.nil); rotate_left; clear HND; go_simp; refine hK.out _ _ (HSC.out _ (by first | with_reducible exact HB4.out | exact up_alloc HB4.out _)) (fun hHA => ?_); clear hK K; (try simp only [Act.put, List.setIfInBounds_toArray, List.set_cons_zero, List.set_cons_succ]); refine wpAnyH_ready (rs := [16]) (by kernel_rfl) (by simp) ?_; refine AllReadyH.cons rfl (fun K hK => ?_) AllReadyH.nil; rotate_left) | (refine wpAnyH_ready (rs := [16]) (by kernel_rfl) (by simp) ?_; refine AllReadyH.cons rfl (fun K hK => ?_) AllReadyH.nil)
                              all_goals as_aux_lemma =>
                                go_simp
                                go_at_call 77
                                refine (HAD.out _ _ _ r hr (HZ1.out.below (below_then HB12.out (below_then HB23.out (below_then HB34.out (by first | with_reducible exact Below.refl _ _ | exact below_alloc _ _))))) (HZ4.out.below (by first | with_reducible exact Below.refl _ _ | exact below_alloc _ _))).mono ?_
                                rintro e w5 ⟨y0, y1, y2, y3, y4, rfl, hz, hb⟩
                                have HZ5 := hidG hz
                                have HB45 : Hid (Below w4.heap.size w4 w5) := below_then (by first | with_reducible exact Below.refl _ _ | exact below_alloc _ _) hb
                                have HB5 : Hid (Below wi.heap.size wi w5) := below_then HB4.out HB45.out
                                (first | have HG5 := hidG (zx_na hb) | have HG5 := hidG (HG4.out.below HG4.out.lt hb) | skip)
                                clear hz hb
                                go_wp2_with fail
                                refine hK.out _ _ (HSC.out _ HB5.out) (fun hHC5 => ?_)
                                clear hK K
                                (try simp only [Act.put, List.setIfInBounds_toArray, List.set_cons_zero, List.set_cons_succ])
                                first | (have hND := HND; clear hND; refine wpAnyH_ready (rs := [17]) (by kernel_rfl) (by simp) ?_; refine AllReadyH.cons rfl (fun K hK => ?_) AllReadyH.nil; go_simp; refine hK.out _ _ (HSC.out _ (up_alloc HB5.out _)) (fun hHA => ?_); clear hK K; (try simp only [Act.put, List.setIfInBounds_toArray, List.set_cons_zero, List.set_cons_succ]); refine wpAnyH_ready (rs := [18]) (by kernel_rfl) (by simp) ?_; refine AllReadyH.cons rfl (fun K hK => ?_) AllReadyH.nil) | (refine wpAnyH_ready (rs := [18]) (by kernel_rfl) (by simp) ?_; refine AllReadyH.cons rfl (fun K hK => ?_) AllReadyH.nil)
                                all_goals
                                  (try (obtain ⟨c0, c1, c2⟩ := HG5.out.c3; have f0 := HG5.out.frozen 0; have f1 := HG5.out.frozen 1; have f2 := HG5.out.frozen 2))
                                  go_simp
                                  go_wp2_with fail
                                  refine hK.out _ _ (HSC.out _ ?_) (fun hHS => ?_)
                                  · first | with_reducible exact up_alloc HB5.out _ | exact low3 HB5.out (by first | exact Nat.le_refl _ | exact HB1.out.size | exact HB2.out.size | exact HB3.out.size | exact HB4.out.size) _ _ _
                                  clear hK K
                                  (try simp only [Act.put, List.setIfInBounds_toArray, List.set_cons_zero, List.set_cons_succ])
                                  refine wpAnyH_done (by kernel_rfl) ?_ _
                                  go_wp2_with fail
                                  go_meet
                                  first | exact ⟨_, r, rfl, hr, zbox_set HG5.out HZ5.out HB5.out (by first | exact Nat.le_refl _ | exact HB1.out.size | exact HB2.out.size | exact HB3.out.size | exact HB4.out.size)⟩ | exact ⟨_, r, rfl, hr, zbox_new HZ5.out HB5.out⟩
                  case rest =>
                    obtain ⟨G, r, rfl, hr, z0, zn, za, zl, zc, hbx, hz, hG, hbw⟩ := hcut
                    have hxs := add_sm hr hxa hxb
                    obtain ⟨x, hx⟩ : ∃ x, xa + (1 + (r : Int)) * xb = x := ⟨_, rfl⟩
                    rw [hx] at hxs hz
                    have HZ := hidG hz
                    have HDw := hidG (HD.out.down hbw hbg hgc)
                    obtain ⟨g0, g1, g2⟩ := hbx.c3
                    have HMI : Hid (Calls Tryz.prog 43 #[.agg #[.int .i64 z0, .bool zn, .slice za zl zc]] wc (ZRet (-x) wc)) := l1MinusZ_any _ x wc HZ.out (lt_sm hxs)
                    clear hbx hz hbw hx
                    go_wp2_with fail
                    refine HMI.out.mono ?_
                    rintro e w5 ⟨p0, p1, p2, p3, p4, rfl, hz5, hb5⟩
                    have HZ5 := hidG hz5
                    have HD5 := hidG (HDw.out.down hb5 hbg hgc)
                    clear hz5 hb5
                    go_wp2_with fail
                    refine (pick_any g N kd 3 _ HD5.out.cur (by omega) (by decide) (by decide)).mono ?_
                    rintro e w6 ⟨r6, k6, rfl, hr6, hk6, hc6, hb6⟩
                    have HZ6 := hidG (numZ_but HZ5.out (but_bar HD5.out.cur hb6))
                    have HD6 := hidG (HD5.out.step hb6 hc6 hbg hgc)
                    clear hc6 hb6
                    go_wp2_with fail
                    refine (l1SmallZ_any (r6 : Int) _ (by omega) (by omega)).mono ?_
                    rintro e w7 ⟨q0, q1, q2, q3, q4, rfl, hz7, hb7⟩
                    have HZ7 := hidG hz7
                    have HZ67 := hidG (HZ6.out.below hb7)
                    have HD7 := hidG (HD6.out.down hb7 hbg hgc)
                    clear hz7 hb7
                    go_wp2_with fail
                    refine (l1SubZ_any _ _ (-x) (r6 : Int) _ HZ67.out HZ7.out (Nat.lt_trans (show (-x - (r6 : Int)).natAbs < 100000000000000000 by omega) (by decide))).mono ?_
                    rintro e w8 ⟨o0, o1, o2, o3, o4, rfl, hz8, hb8⟩
                    have HZ8 := hidG hz8
                    have HD8 := hidG (HD7.out.down hb8 hbg hgc)
                    clear hz8 hb8
                    go_wp2_with fail
                    refine (l1TextN_any 0 _ (-x - (r6 : Int)) 3 _ (Nat.zero_le _) HZ8.out (by decide)).mono ?_
                    rintro e w9 ⟨u9t, rfl, hu9, hb9⟩
                    have HU9 := hidG hu9
                    have HD9 := hidG (HD8.out.down hb9 hbg hgc)
                    obtain ⟨pq, cq, rfl, -⟩ := own_form HD9.out.row
                    obtain ⟨d0, d1, d2⟩ := HD9.out.box.c3
                    have e2 := HD9.out.box.frozen 2
                    obtain ⟨ub, rfl⟩ : ∃ ub, u9t = strOf ub := ⟨u9t.data.toList, (strOf_data u9t).symm⟩
                    have HUB : Hid (ub.length ≤ 30) := by
                      have h3 := text_short (K := 17) HU9.out (by omega)
                      rw [strOf_size] at h3
                      unfold Hid
                      omega
                    have HDa := hidG (HD9.out.put (.string (strOf ub)) (by have := HS4.out; omega) hwao hNwa)
                    clear hu9 hb9
                    have hFl := HLL.out
                    rw [← hFl]
                    clear hFl
                    go_wp2_with (at_builtin; refine wpList_appR (W := w9.setCell ⟨wo.heap.size, 2, none⟩ (.string (strOf ub))) (base := wa.heap.size) (F := F) (A := A) (f := (Lr.mk T true ub)) rfl _ _ rfl rfl ?own ?va ?hne _ rfl ?hH F.length ?hk ?hn ?hb ?_)
                    case own => exact HO.out.inBD HB4w.out hgwa (by have := HS4.out; omega) HDa.out
                    case va => exact own_lower HDa.out.row (by have := HS4.out; omega)
                    case hne =>
                      intro b hb a ha hab
                      obtain ⟨i, hi, rfl⟩ := List.getElem_of_mem ha
                      have h1 := own_base HDa.out.row b hb
                      have h2 := ((HO.out.rows i hi (by rw [← HO.out.len]; exact hi)).lt b hab).2
                      have h3 := HS4.out
                      omega
                    case hH => simp
                    case hk => rfl
                    case hn => have := HLL.out; omega
                    case hb => exact HDa.out.bar.size
                    intro g5 c5 wz hout5 hsz5 hgr5
                    have HO5 := hidG hout5
                    have hO8 := HO.out.inBD HB4w.out hgwa (by have := HS4.out; omega) HDa.out
                    have hbel : Below wa.heap.size (w9.setCell ⟨wo.heap.size, 2, none⟩ (.string (strOf ub))) wz := (Below.refl _ _).grown hgr5 HDa.out.bar.size (fun b hb => (hO8.own.lt b hb).1)
                    have HC9 := hidG (HDa.out.cur.below (hbel.mono hNwa))
                    have HB9 : Hid (Bar g wa wz) := HDa.out.bar.then hbel
                    clear hout5 hgr5 hO8 hbel
                    go_wp2_with fail
                    go_ret
                    refine ⟨_, F ++ [(Lr.mk T true ub)], A ++ [_], k6, rfl, HO5.out.lower HBAR.out.size, by rw [List.length_append, HLL.out]; simp; omega, by rw [List.length_append]; have := HFL.out; omega, fun f hf => ?_, by omega, HC9.out, HBAR.out.trans HB9.out⟩
                    rcases List.mem_append.1 hf with h | h
                    · exact HFB.out f h
                    · simp at h
                      subst h
                      exact ⟨by rw [HTL2.out]; exact hc, HTT.out, HUB.out⟩
            · have z2 : decide ((1 : Int) < (F.length : Int)) = false := decide_eq_false (by omega)
              clear hF2
              go_wp2_with fail
              go_ret
              exact ⟨_, F, A, kd, rfl, HO.out.lower HBAR.out.size, by omega, by have := HFL.out; omega, HFB.out, by omega, HCU.out, HBAR.out.trans HBA.out⟩
          · have z1 : ((kind : Int) == 2) = false := by rw [beq_eq_false_iff_ne]; omega
            clear hk2
            go_wp2_with fail
            go_ret
            exact ⟨_, F, A, kd, rfl, HO.out.lower HBAR.out.size, by omega, by have := HFL.out; omega, HFB.out, by omega, HCU.out, HBAR.out.trans HBA.out⟩
end Go.Proofs.YtknfmkeipeikkaaGreatDoor.L
