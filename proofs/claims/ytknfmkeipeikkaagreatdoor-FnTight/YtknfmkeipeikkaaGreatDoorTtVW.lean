import Derived.Test.YtknfmkeipeikkaaGreatDoorTtSU
namespace Go.Proofs.YtknfmkeipeikkaaGreatDoor.L
open Go.ChangeShapes Go.WideShapes Go.ChangeAt Go.RowKit
/-- Flags that are one's own. -/
def FlA (base : Nat) (W : World) (v : Value) (L : List Bool) : Prop := W.ownsRow base 4 1 v L.length (L.map Value.bool)
theorem FlA.bar {base g : Nat} {W W' : World} {v : Value} {L : List Bool} (h : FlA base W v L) (hb : Bar g W W') (hg : g < base) : FlA base W' v L := own_bar h hb hg
theorem FlA.at {base : Nat} {W : World} {v : Value} {L : List Bool} (h : FlA base W v L) : BoolsAt W v L := by
  obtain ⟨p, c, rfl, h1, h2, h3⟩ := own_row h
  refine ⟨p, c, rfl, h1, h2, ?_⟩
  rcases h3 with h3 | ⟨g, rfl, hg⟩
  · exact .inl (List.eq_nil_of_length_eq_zero h3)
  · exact .inr ⟨g, rfl, hg, fun i hi => own_read h (by rw [List.getElem?_map, List.getElem?_eq_getElem hi]; rfl)⟩
def FlagP (g N k n : Nat) (w : World) (e : Ending) (w' : World) : Prop := ∃ (v : Value) (L : List Bool) (k' : Nat), e = .returned v ∧ FlA w.heap.size w' v L ∧ L.length = n ∧ k' ≤ k + 2 * n ∧ IsCur g N w' k' ∧ Bar g w w'
set_option maxRecDepth 100000 in
set_option maxHeartbeats 4000000 in
theorem flags_any (g N k n : Nat) (w : World) (h : IsCur g N w k) (hk : k ≤ 1000000) (hn : n ≤ 30) :
    Calls Tryz.prog 26 #[.pointer (some ⟨g, 0, none⟩), .int .i64 (n : Nat)] w (FlagP g N k n w) := by
  obtain ⟨i0, hinf, hz0, hz1, hz2⟩ := info_bool
  have hgw : g < w.heap.size := Nat.lt_of_lt_of_le h.1 h.2.1
  have HC := hidG h
  clear h
  go_enter Tryz.func26, Tryz.ntmps26
  go_wp2_with fail
  go_loopw [5, 6] (fun av iv wr => ∃ (j kc : Nat) (X : List Bool), j ≤ n ∧ iv = .int .i64 (j : Nat) ∧ X.length = j ∧ FlA w.heap.size wr av X ∧ kc ≤ k + 2 * j ∧ IsCur g N wr kc ∧ Bar g w wr) (fun _ iv _ => n - (intOf iv).toNat)
  case atStart => exact ⟨0, k, [], Nat.zero_le _, rfl, rfl, World.ownsRow_nil _ _ _ _, Nat.le_refl _, HC.out, Bar.refl _ _⟩
  case round =>
    rename World => wa
    obtain ⟨j, kc, X, hj, rfl, hXl, hX, hkc, hcur, hbar⟩ := hrel
    have HX := hidG hX
    have HXL := hidG hXl
    have HCUR := hidG hcur
    have HBAR := hidG hbar
    obtain ⟨p5, c5, rfl, -⟩ := own_form hX
    clear hX hXl hcur hbar
    by_cases hlt : j < n
    · have z1 : decide ((j : Int) < (n : Int)) = true := decide_eq_true (by omega)
      go_wp2_with fail
      refine (pick_any g N kc 4 _ HCUR.out (by omega) (by decide) (by decide)).mono ?_
      rintro e w3 ⟨r3, k3, rfl, hr3, hk3, hc3, hb3⟩
      have HC3 := hidG hc3
      have HB3 : Hid (Bar g w w3) := HBAR.out.trans hb3
      have hown : w3.ownsRow w.heap.size 4 1 (.slice p5 X.length c5) X.length (X.map Value.bool) := HX.out.bar hb3 hgw
      have hws : w.heap.size ≤ w3.heap.size := HB3.out.size
      have hX30 : X.length ≤ 30 := by have := HXL.out; omega
      obtain ⟨b, hb⟩ : ∃ b, decide ((0 : Int) < (r3 : Int)) = b := ⟨_, rfl⟩
      have hb' : decide (0 < r3) = b := by rw [← hb]; simp
      clear hc3 hb3
      go_wp2_with (at_builtin; refine wpList_append_own_at _ rfl _ _ 23 rfl w.heap.size 4 i0 (.bool false) 1 1 Tryz.underlying23 hinf hz0 hz1 hz2 rfl (by decide) (.slice p5 X.length c5) X.length _ rfl (hown.alloc _) ⟨w3.heap.size, 0, none⟩ 1 1 [.bool b] rfl rfl ?c1 ?c2 ?c3 ?c4 ?c5 ?_)
      case c1 =>
        intro j u hj
        match j, hj with
        | 0, hj => simp at hj; subst hj; simp [Addr.add]
      case c2 => intro u hu; simp at hu; subst hu; rfl
      case c3 => unfold maxLen; omega
      case c4 => omega
      case c5 => simp; omega
      intro v5 w5 hown5 hgr5 _ _
      have hgr : w3.grownBy w5 (Value.slice p5 X.length c5).ownBlock := (World.grownBy_alloc w3 _ _).trans hgr5
      have hbel : Below w.heap.size w3 w5 := (Below.refl _ w3).grown hgr hws (fun b e => own_base hown b e)
      have HF5 : Hid (FlA w.heap.size w5 v5 (X ++ [b])) := by
        unfold Hid FlA
        rw [List.length_append, List.map_append]
        exact hown5
      have HC5 := hidG (HC3.out.below (hbel.mono HC.out.2.1))
      have HB5 : Hid (Bar g w w5) := HB3.out.then hbel
      obtain ⟨p6, c6, rfl, -⟩ := own_form hown5
      clear hown5 hgr5 hgr hbel hown hb hb'
      go_wp2_with fail
      refine ⟨⟨j + 1, k3, X ++ [b], by omega, by go_num, by rw [List.length_append, HXL.out]; rfl, HF5.out, by omega, HC5.out, HB5.out⟩, by simp [intOf]; omega⟩
    · have z1 : decide ((j : Int) < (n : Int)) = false := decide_eq_false (by omega)
      have hjn : j = n := by omega
      subst hjn
      go_wp2_with fail
      go_ret
      exact ⟨_, X, kc, rfl, HX.out, HXL.out, hkc, HCUR.out, HBAR.out⟩
/-- What DrawTighten answers. -/
def T13P (w : World) (e : Ending) (w' : World) : Prop := ∃ (cols : Nat) (wv v : Value) (Wh : List Bool) (F : List Lr) (A : List Value) (base : Nat), e = .returned (.tuple #[.int .i64 (cols : Nat), wv, v]) ∧ cols ≤ 21 ∧ FlA base w' wv Wh ∧ Wh.length ≤ 30 ∧ OutD base w' v F A ∧ F.length ≤ 60 ∧ (∀ f ∈ F, FineR f) ∧ Below w.heap.size w w'
def L13P (w : World) (e : Ending) (w' : World) : Prop := ∃ (cols : Nat) (wv v c : Value) (Wh : List Bool) (F : List Lr) (A : List Value) (base : Nat), e = .returned (.tuple #[.int .i64 (cols : Nat), wv, v, c]) ∧ cols ≤ 21 ∧ FlA base w' wv Wh ∧ Wh.length ≤ 30 ∧ OutD base w' v F A ∧ F.length ≤ 60 ∧ (∀ f ∈ F, FineR f) ∧ Below w.heap.size w w'
set_option maxRecDepth 100000 in
set_option maxHeartbeats 4000000 in
theorem l13Drawn_any (a : Option Addr) (n cap : Nat) (w : World) (h : CodeArg w a n cap) :
    Calls Tryz.prog 10 #[.slice a n cap] w (L13P w) := by
  have HA := hidG h
  clear h
  go_enter Tryz.func10, Tryz.ntmps10
  go_wp2_with fail
  refine (l12Drawn_any a n cap _ HA.out).mono ?_
  rintro e w1 ⟨cols, v, F, A, k, base, rfl, hcols, hO, hwb, hbw, hF, hT, hk, hc, hb⟩
  have HO := hidG hO
  have HT := hidG hT
  have HC := hidG hc
  have HB := hidG hb
  obtain ⟨g, hg⟩ : ∃ g, w.heap.size = g := ⟨_, rfl⟩
  rw [hg] at HC hwb
  have HG := hidG hg
  clear hO hT hc hb
  rw [hg]
  clear hg
  go_wp2_with fail
  refine (pick_any g (g + 1) k 20 _ HC.out (by omega) (by decide) (by decide)).mono ?_
  rintro e w2 ⟨r2, k2, rfl, hr2, hk2, hc2, hb2⟩
  have HC2 := hidG hc2
  have HO2 := hidG (HO.out.bar hb2 hwb)
  have h12 : w1.heap.size ≤ w2.heap.size := hb2.size
  have HB2 := hidG (HB.out.trans (hb2.below (N := w.heap.size) (by rw [HG.out]; exact Nat.le_refl _) (by have := HB.out.size; omega)))
  clear hc2 hb2
  go_upto_if 19 with fail
  go_cut [9] (fun s9 wx => ∃ m : Nat, s9 = .int .i64 (m : Nat) ∧ m ≤ 22 ∧ w2 = wx)
  case first =>
    by_cases h0 : r2 = 0
    · have z3 : ((r2 : Int) == 0) = true := by rw [beq_iff_eq]; omega
      clear h0
      obtain ⟨m, hm, hm'⟩ : ∃ m : Nat, (cols : Int) + 1 = (m : Int) ∧ m ≤ 22 := ⟨cols + 1, by push_cast; rfl, by omega⟩
      go_wp2_with fail
      go_meet
      exact ⟨m, rfl, hm', rfl⟩
    · have z3 : ((r2 : Int) == 0) = false := by rw [beq_eq_false_iff_ne]; omega
      clear h0
      go_wp2_with fail
      go_meet
      exact ⟨cols, rfl, by omega, rfl⟩
  case rest =>
    obtain ⟨m, rfl, hm, rfl⟩ := hcut
    have z5 : decide ((30 : Int) < (m : Int)) = false := decide_eq_false (by omega)
    go_wp2_with fail
    refine (flags_any g (g + 1) k2 m _ HC2.out (by omega) (by omega)).mono ?_
    rintro e w3 ⟨wv, Wh, k3, rfl, hW, hWl, -, hc3, hb3⟩
    have HO3 := hidG (HO2.out.bar hb3 hwb)
    have HW3 : Hid (FlA base w3 wv Wh) := own_lower hW (by omega)
    have HB3 := hidG (HB2.out.trans (hb3.below (N := w.heap.size) (by rw [HG.out]; exact Nat.le_refl _) (by have := HB2.out.size; omega)))
    have hWm : Wh.length ≤ 30 := by omega
    clear hW hWl hc3 hb3
    obtain ⟨p1, c1, rfl, -⟩ := own_form HW3.out
    obtain ⟨p2, c2, rfl, -⟩ := own_form HO3.out.own
    go_wp2_with fail
    refine bodyPost_ret (v := .tuple #[.int .i64 (cols : Nat), .slice p1 Wh.length c1, .slice p2 F.length c2, .pointer (some ⟨g, 0, none⟩)]) ?_ rfl ⟨cols, _, _, _, Wh, F, A, base, rfl, hcols, HW3.out, hWm, HO3.out, hF, HT.out, HB3.out⟩
    simp [results, Tryz.results10, go_sem]
set_option maxRecDepth 100000 in
set_option maxHeartbeats 4000000 in
theorem drawTighten_any (a : Option Addr) (n cap : Nat) (w : World) (h : CodeArg w a n cap) :
    Calls Tryz.prog 4 #[.slice a n cap] w (T13P w) := by
  have HA := hidG h
  clear h
  go_enter Tryz.func4, Tryz.ntmps4
  go_wp2_with fail
  refine (l13Drawn_any a n cap _ HA.out).mono ?_
  rintro e w1 ⟨cols, wv, v, c, Wh, F, A, base, rfl, hcols, hW, hWm, hO, hF, hT, hb⟩
  have HO := hidG hO
  have HT := hidG hT
  have HW := hidG hW
  have HB := hidG hb
  obtain ⟨p1, c1, rfl, -⟩ := own_form hW
  obtain ⟨p2, c2, rfl, -⟩ := own_form hO.own
  clear hO hT hW hb
  go_wp2_with fail
  refine bodyPost_ret (v := .tuple #[.int .i64 (cols : Nat), .slice p1 Wh.length c1, .slice p2 F.length c2]) ?_ rfl ⟨cols, _, _, Wh, F, A, base, rfl, hcols, HW.out, hWm, HO.out, hF, HT.out, HB.out⟩
  simp [results, Tryz.results4, go_sem]
/-- A small number's text. -/
def SmallT (s : List UInt8) (x y : Int) : Prop := RatIs s x y ∧ x.natAbs ≤ 8 ∧ y ≤ 8 ∧ s.length ≤ 60
def NumL (L : List (List UInt8)) (V : List (Int × Int)) : Prop := V.length = L.length ∧ ∀ i (_ : i < L.length) (_ : i < V.length), SmallT L[i] V[i].1 V[i].2
theorem NumL.nil : NumL [] [] := ⟨rfl, fun _ h => absurd h (Nat.not_lt_zero _)⟩
theorem NumL.app {L : List (List UInt8)} {V : List (Int × Int)} (h : NumL L V) {s : List UInt8} {x y : Int} (hs : SmallT s x y) : NumL (L ++ [s]) (V ++ [(x, y)]) := by
  refine ⟨by simp [h.1], fun i hi hi' => ?_⟩
  by_cases e : i < L.length
  · have e' : i < V.length := by rw [h.1]; exact e
    rw [List.getElem_append_left e', List.getElem_append_left e]
    exact h.2 i e e'
  · have e1 : i = L.length := by simp at hi; omega
    subst e1
    rw [List.getElem_append_right (Nat.le_refl _), List.getElem_append_right (by rw [h.1]; exact Nat.le_refl _)]
    simp only [Nat.sub_self, List.getElem_cons_zero, h.1]
    exact hs
theorem small_of {u : ByteArray} {x y : Int} (h : TextR x y u) (hx : x.natAbs ≤ 8) (hy0 : 0 < y) (hy : y ≤ 8) (hg : Int.gcd x y = 1) : SmallT u.data.toList x y := by
  have p1 : (10 : Nat) ^ 1 ≤ 10 ^ 2500 := pow_up 1 2500 (by decide)
  have hz : u ≠ strB [] ∧ u.size ≤ 60 := by
    unfold TextR at h
    split at h
    · exact ⟨text_has h (by omega), by have := text_short (K := 1) h (by omega); omega⟩
    · obtain ⟨p, q, h1, h2, e⟩ := h
      have k1 := size_ne.1 (text_has h1 (by omega))
      have k2 := size_ne.1 (text_has h2 (by omega))
      have k3 := text_short (K := 1) h1 (by omega)
      have k4 := text_short (K := 1) h2 (by omega)
      have e47 : (⟨#[47]⟩ : ByteArray).size = 1 := rfl
      rw [if_neg (by omega)] at e
      have hsz : u.size = p.size + 1 + q.size := by rw [e, ByteArray.size_append, ByteArray.size_append, e47]
      exact ⟨size_ne.2 (by omega), by omega⟩
  obtain ⟨k, h1, h2⟩ := text_ratV h hy0 hg hz.1
  refine ⟨⟨k, ?_⟩, hx, hy, ?_⟩
  · rw [strOf_data]
    exact ⟨h1, h2⟩
  · have := hz.2
    have e : u.data.toList.length = u.size := Array.length_toList
    omega
theorem l2TextR_any (z : Value) (x y : Int) (w : World) (h : IsQN 0 w z x y) (hx : x.natAbs ≤ 8) (hy0 : 0 < y) (hy : y ≤ 8) (hg : Int.gcd x y = 1) :
    Calls Tryz.prog 19 #[z] w fun e w' => ∃ s, e = .returned (.string (strOf s)) ∧ SmallT s x y ∧ Below w.heap.size w w' := by
  obtain ⟨p0, pn, pa, pl, pc, q0, qn, qa, ql, qc, rfl, h1, h2⟩ := id h
  have hb : (9 : Nat) < 1000000000 ^ 6 := by decide
  obtain ⟨n1, t1, k1, k2, k3⟩ := numZ_of (N := 6) (numZ_isN h1) (by omega)
  obtain ⟨n2, t2, m1, m2, m3⟩ := numZ_of (N := 6) (numZ_isN h2) (by omega)
  refine (l2Text_any 0 p0 pn pa pl pc q0 qn qa ql qc n1 n2 t1 t2 x y w (Nat.zero_le _) h k1 m1 (by omega) (by omega)).mono ?_
  rintro e w' ⟨rfl, hbb⟩
  have T1 : IsText x (fullT (negOf n1 t1) t1) := ⟨n1, t1, k1.1, k1.2.1, k2, fullT_text _ _ (by omega)⟩
  have T2 : IsText y (fullT (negOf n2 t2) t2) := ⟨n2, t2, m1.1, m1.2.1, m2, fullT_text _ _ (by omega)⟩
  have p1 : (10 : Nat) ^ 1 ≤ 10 ^ 2500 := pow_up 1 2500 (by decide)
  have hT : TextR x y (if y = 1 then fullT (negOf n1 t1) t1 else fullT (negOf n1 t1) t1 ++ ⟨#[47]⟩ ++ fullT (negOf n2 t2) t2) := by
    unfold TextR
    by_cases e : y = 1
    · rw [if_pos e, if_pos e]
      exact T1
    · rw [if_neg e, if_neg e]
      have k1 := size_ne.1 (text_has T1 (by omega))
      have k2 := size_ne.1 (text_has T2 (by omega))
      exact ⟨_, _, T1, T2, by rw [if_neg (by omega)]⟩
  exact ⟨_, by rw [strOf_data], small_of hT hx hy0 hy hg, hbb⟩
/-- Numbers while they are drawn. -/
def NumI (g N : Nat) (w : World) (m : Nat) (v i : Value) (W : World) : Prop := ∃ (k kc : Nat) (L : List (List UInt8)) (V : List (Int × Int)), k ≤ m ∧ i = .int .i64 (k : Nat) ∧ L.length = k ∧ NumL L V ∧ W.ownsRow N 9 1 v L.length (strsC L) ∧ kc ≤ 1000 + 10 * k ∧ IsCur g N W kc ∧ Bar g w W
def NumP (w : World) (m : Nat) (e : Ending) (w' : World) : Prop := ∃ (v : Value) (L : List (List UInt8)) (V : List (Int × Int)), e = .returned v ∧ L.length = m ∧ NumL L V ∧ w'.ownsRow w.heap.size 9 1 v L.length (strsC L) ∧ Below w.heap.size w w'
set_option maxRecDepth 100000 in
set_option maxHeartbeats 4000000 in
theorem numbers_any (a : Option Addr) (n cap i m : Nat) (w : World) (h : CodeArg w a n cap) (hi : i < 12) (hm : m ≤ 30) :
    Calls Tryz.prog 8 #[.slice a n cap, .int .i64 (i : Nat), .int .i64 (m : Nat)] w (NumP w m) := by
  obtain ⟨i0, hinf, hz0, hz1, hz2⟩ := info_str
  obtain ⟨a0, ha0, ha0'⟩ : ∃ a0 : Nat, (5 : Int) * (i : Int) = (a0 : Int) ∧ a0 ≤ 100 := ⟨5 * i, by push_cast; rfl, by omega⟩
  obtain ⟨sd, hsd, hsd'⟩ : ∃ sd : Nat, (i : Int) + 3 = (sd : Int) ∧ sd ≤ 100 := ⟨i + 3, by push_cast; rfl, by omega⟩
  obtain ⟨W0, hW0⟩ : ∃ W0, w.alloc (.cells #[.slice a n cap, .int .i64 (a0 : Nat), .int .u64 (sd : Nat)] 48) = W0 := ⟨_, rfl⟩
  have HW0 := hidG hW0
  have HB0 : Hid (Below w.heap.size w W0) := by unfold Hid; rw [← hW0]; exact below_alloc _ _
  have hc0 : IsCur w.heap.size (w.heap.size + 1) W0 a0 := by rw [← hW0]; exact cur_new h _ a0 sd (by omega)
  obtain ⟨g, hg⟩ : ∃ g, w.heap.size = g := ⟨_, rfl⟩
  obtain ⟨N, hN⟩ : ∃ N, g + 1 = N := ⟨_, rfl⟩
  have hgN : g < N := by omega
  rw [hg, hN] at hc0
  have HC0 := hidG hc0
  have HG := hidG hg
  have HWN : Hid (W0.heap.size = N) := by unfold Hid; rw [← hW0, ← hN, ← hg]; simp
  clear h hW0 hc0 hN hg
  go_enter Tryz.func8, Tryz.ntmps8
  go_upto_region 2 with fail
  rw [HW0.out, HG.out]
  go_wp2_with fail
  go_loopw [8, 9] (NumI g N W0 m) (fun _ i _ => m - (intOf i).toNat)
  case atStart => exact ⟨0, a0, [], [], Nat.zero_le _, rfl, rfl, NumL.nil, World.ownsRow_nil _ _ _ _, by omega, HC0.out, Bar.refl _ _⟩
  case round =>
    rename World => wa
    obtain ⟨k, kc, L, V, hk, rfl, hL, hNL, hown, hkc, hcur, hbar⟩ := hrel
    have HLEN := hidG hL
    have HNL := hidG hNL
    have HOWN := hidG hown
    have HCUR := hidG hcur
    have HBAR := hidG hbar
    obtain ⟨p8, c8, rfl, -⟩ := own_form hown
    clear hL hNL hown hcur hbar
    by_cases hlt : k < m
    · have z1 : decide ((k : Int) < (m : Int)) = true := decide_eq_true (by omega)
      have z2 : decide ((k : Int) < 40) = true := decide_eq_true (by omega)
      go_wp2_with fail
      refine (pick_any g N kc 3 _ HCUR.out (by omega) (by decide) (by decide)).mono ?_
      rintro e w3 ⟨r3, k3, rfl, hr3, hk3, hc, hb⟩
      have HC3 := hidG hc
      have HB3 : Hid (Bar g W0 w3) := HBAR.out.trans hb
      have HO3 := hidG (own_bar HOWN.out hb hgN)
      clear hc hb
      go_upto_if 30 with fail
      go_cut [10] (fun s10 wx => ∃ q kq : Nat, s10 = .int .i64 (q : Nat) ∧ 1 ≤ q ∧ q ≤ 5 ∧ kq ≤ k3 + 2 ∧ IsCur g N wx kq ∧ Bar g W0 wx ∧ wx.ownsRow N 9 1 (.slice p8 L.length c8) L.length (strsC L))
      case first =>
        by_cases h0 : r3 = 0
        · have z3 : ((r3 : Int) == 0) = true := by rw [beq_iff_eq]; omega
          clear h0
          go_wp2_with fail
          refine (pick_any g N k3 5 _ HC3.out (by omega) (by decide) (by decide)).mono ?_
          rintro e w4 ⟨r4, k4, rfl, hr4, hk4, hc, hb⟩
          have HC4 := hidG hc
          have HB4 : Hid (Bar g W0 w4) := HB3.out.trans hb
          have HO4 := hidG (own_bar HO3.out hb hgN)
          clear hc hb
          obtain ⟨q, hq, hq1, hq2⟩ : ∃ q : Nat, 1 + (r4 : Int) = (q : Int) ∧ 1 ≤ q ∧ q ≤ 5 := ⟨1 + r4, by push_cast; rfl, by omega, by omega⟩
          go_wp2_with fail
          go_meet
          exact ⟨q, k4, rfl, hq1, hq2, hk4, HC4.out, HB4.out, HO4.out⟩
        · have z3 : ((r3 : Int) == 0) = false := by rw [beq_eq_false_iff_ne]; omega
          clear h0
          go_wp2_with fail
          go_meet
          exact ⟨1, k3, rfl, by decide, by decide, by omega, HC3.out, HB3.out, HO3.out⟩
      case rest =>
        obtain ⟨q, kq, rfl, hq1, hq2, hkq, hc, hb, ho⟩ := hcut
        have HCq := hidG hc
        have HBq := hidG hb
        have HOq := hidG ho
        clear hc hb ho
        go_wp2_with fail
        refine (pick_any g N kq 17 _ HCq.out (by omega) (by decide) (by decide)).mono ?_
        rintro e w5 ⟨r5, k5, rfl, hr5, hk5, hc, hb⟩
        have HC5 := hidG hc
        have HB5 : Hid (Bar g W0 w5) := HBq.out.trans hb
        have HO5 := hidG (own_bar HOq.out hb hgN)
        clear hc hb
        go_wp2_with fail
        refine (l1Small_any ((r5 : Int) - 8) _ (by omega) (by omega)).mono ?_
        rintro e w6 ⟨zp, rfl, hz, hb⟩
        have HZ1 := hidG (hz.mono' (B' := 0) (n' := 1000) (Nat.zero_le _) (by decide))
        have HC6 := hidG (HC5.out.below (hb.mono HC5.out.2.1))
        have HB6 : Hid (Bar g W0 w6) := HB5.out.trans (Bar.of hb)
        have HO6 := hidG (own_bar HO5.out (Bar.of hb) hgN)
        clear hz hb
        go_wp2_with fail
        refine (l1Small_any (q : Int) _ (by omega) (by omega)).mono ?_
        rintro e w7 ⟨zq, rfl, hz, hb⟩
        have HZ2 := hidG (hz.mono' (B' := 0) (n' := 1000) (Nat.zero_le _) (by decide))
        have HZ3 := hidG (HZ1.out.below hb)
        have HC7 := hidG (HC6.out.below (hb.mono HC6.out.2.1))
        have HB7 : Hid (Bar g W0 w7) := HB6.out.trans (Bar.of hb)
        have HO7 := hidG (own_bar HO6.out (Bar.of hb) hgN)
        clear hz hb
        go_wp2_with fail
        refine (l2Make_any 0 _ _ ((r5 : Int) - 8) (q : Int) _ (Nat.zero_le _) HZ3.out HZ2.out (by omega)).mono ?_
        rintro e w8 ⟨z3, px, qx, rfl, hq, hlow, hb⟩
        have HQ := hidG hq
        obtain ⟨hp8, hq8⟩ := low_abs hlow
        have hqp := low_pos hlow
        have HGC := hidG (low_gcd hlow)
        have HC8 := hidG (HC7.out.below (hb.mono HC7.out.2.1))
        have HB8 : Hid (Bar g W0 w8) := HB7.out.trans (Bar.of hb)
        have HO8 := hidG (own_bar HO7.out (Bar.of hb) hgN)
        have hpx : px.natAbs ≤ 8 := by omega
        have hqx : qx ≤ 8 := by omega
        clear hq hlow hb hp8 hq8
        go_wp2_with fail
        refine (l2TextR_any z3 px qx _ HQ.out hpx hqp hqx HGC.out).mono ?_
        rintro e w9 ⟨s, rfl, hs, hb⟩
        have HS := hidG hs
        have HC9 := hidG (HC8.out.below (hb.mono HC8.out.2.1))
        have HB9 : Hid (Bar g W0 w9) := HB8.out.trans (Bar.of hb)
        have hown := own_bar HO8.out (Bar.of hb) hgN
        have hNx : N ≤ w9.heap.size := HC9.out.2.1
        have hL30 : L.length ≤ 30 := by have := HLEN.out; omega
        clear hs hb
        go_wp2_with (at_builtin; refine wpList_append_own_at _ rfl _ _ 28 rfl N 9 i0 (.string ⟨#[]⟩) 1 16 Tryz.underlying28 hinf hz0 hz1 hz2 rfl (by decide) (.slice p8 L.length c8) L.length _ rfl (hown.alloc _) ⟨w9.heap.size, 0, none⟩ 1 1 [.string (strOf s)] rfl rfl ?c1 ?c2 ?c3 ?c4 ?c5 ?_)
        case c1 =>
          intro j u hj
          match j, hj with
          | 0, hj => simp at hj; subst hj; simp [Addr.add]
        case c2 => intro u hu; simp at hu; subst hu; rfl
        case c3 => unfold maxLen; omega
        case c4 => omega
        case c5 => simp; omega
        intro v5 wb hown5 hgr5 _ _
        have hgr : w9.grownBy wb (Value.slice p8 L.length c8).ownBlock := (World.grownBy_alloc w9 _ _).trans hgr5
        have hbel : Below N w9 wb := (Below.refl _ w9).grown hgr hNx (fun b e => own_base hown b e)
        have HO10 : Hid (wb.ownsRow N 9 1 v5 (L ++ [s]).length (strsC (L ++ [s]))) := by
          have e := strsC_app L (strOf s)
          unfold Hid
          rw [List.length_append, show strsC (L ++ [s]) = strsC L ++ [.string (strOf s)] by unfold strsC; rw [List.map_append]; rfl]
          exact hown5
        have HC10 := hidG (HC9.out.below hbel)
        have HB10 : Hid (Bar g W0 wb) := HB9.out.then (hbel.mono (by have := HWN.out; omega))
        obtain ⟨p6, c6, rfl, -⟩ := own_form hown5
        clear hown5 hgr5 hgr hbel hown
        go_wp2_with fail
        refine ⟨⟨k + 1, k5, L ++ [s], V ++ [(px, qx)], by omega, by go_num, by rw [List.length_append, HLEN.out]; rfl, HNL.out.app HS.out, HO10.out, by omega, HC10.out, HB10.out⟩, by simp [intOf]; omega⟩
    · have z1 : decide ((k : Int) < (m : Int)) = false := decide_eq_false (by omega)
      have hkm : k = m := by omega
      subst hkm
      go_wp2_with fail
      go_ret
      exact ⟨_, L, V, rfl, HLEN.out, HNL.out, own_lower HOWN.out (by have := HG.out; omega), HB0.out.trans (HBAR.out.below (by have := HG.out; omega) (by have := HG.out; have := HWN.out; omega))⟩
end Go.Proofs.YtknfmkeipeikkaaGreatDoor.L
