import Derived.Test.YtdngpnlbhadbpaaDoorTrDb
namespace Go.Proofs.YtdngpnlbhadbpaaDoor
open Go.ChangeShapes Go.WideShapes Go.ChangeAt Go.RowKit
theorem own_bar {W W' : World} {g base : Nat} {e : TypeId} {sz : Nat} {v : Value} {n : Nat} {xs : List Value} (h : W.ownsRow base e sz v n xs) (hb : Bar g W W') (hg : g < base) : W'.ownsRow base e sz v n xs :=
  own_other' h (fun k hk => hb.block k (h.lt k hk).2 (by have := (h.lt k hk).1; omega))
def sumL (L : List Int) : Nat := (L.map Int.toNat).sum
theorem sumL_cons (a : Int) (L : List Int) : sumL (a :: L) = a.toNat + sumL L := by simp [sumL]
def okL (L : List Int) : Prop := ∀ x ∈ L, 0 ≤ x ∧ x ≤ 4
theorem okL.tail {a : Int} {L : List Int} (h : okL (a :: L)) : okL L := fun x hx => h x (List.mem_cons_of_mem _ hx)
theorem okL.suf {P M : List Int} (h : okL (P ++ M)) : okL M := fun x hx => h x (List.mem_append_right _ hx)
theorem okL.cons {a : Int} {L : List Int} (h : okL L) (h0 : 0 ≤ a) (h1 : a ≤ 4) : okL (a :: L) := fun x hx => by
  rcases List.mem_cons.1 hx with rfl | hx
  · exact ⟨h0, h1⟩
  · exact h x hx
theorem sum_suf (P M : List Int) : sumL M ≤ sumL (P ++ M) := by simp [sumL]
theorem len_suf (P M : List Int) : M.length ≤ (P ++ M).length := by simp
theorem own_suf {W : World} {base : Nat} {e : TypeId} {p : Option Addr} {c : Nat} {P M : List Int} (h : W.ownsRow base e 1 (.slice p (P ++ M).length c) (P ++ M).length (ints (P ++ M))) : W.ownsRow base e 1 (.slice p M.length c) M.length (ints M) := by
  have h2 := h
  rw [ints_app] at h2
  have := own_cut h2
  rw [ints_len] at this
  exact this
set_option maxRecDepth 100000 in
set_option maxHeartbeats 8000000 in
theorem trees_any (g N k most : Nat) (w : World) (h : IsCur g N w k) (hk : k ≤ 1000000) (hmo : most ≤ 63) :
    Calls Tryd.prog 33 #[.pointer (some ⟨g, 0, none⟩), .int .i64 (most : Nat)] w fun e w' => ∃ (v : Value) (ns : List (Nd × Int)) (k' : Nat), e = .returned v ∧ w'.ownsRow w.heap.size 31 4 v ns.length (cellsN ns) ∧ SmN ns ∧ ns.length ≤ 400 ∧ k' ≤ k + 8000 ∧ IsCur g N w' k' ∧ Bar g w w' := by
  have HC0 := hidG h
  have HNW := hidG h.2.1
  have hgw : g < w.heap.size := h.lt
  clear h
  go_enter Tryd.func33, Tryd.ntmps33
  go_wp2_with fail
  go_loopw [5, 6, 7] (fun ov lv iv wr => ∃ (i k' : Nat) (ns : List (Nd × Int)) (L : List Int), i ≤ most ∧ iv = .int .i64 (i : Nat) ∧ ns.length = i ∧ SmN ns ∧ okL L ∧ sumL L ≤ 4 * i ∧ L.length ≤ i ∧ k' ≤ k + 8 * ns.length ∧ wr.ownsRow w.heap.size 31 4 ov ns.length (cellsN ns) ∧ wr.ownsRow w.heap.size 3 1 lv L.length (ints L) ∧ IsCur g N wr k' ∧ Bar g w wr) (fun _ _ iv _ => 400 - (intOf iv).toNat)
  case atStart => exact ⟨0, k, [], [], Nat.zero_le _, rfl, rfl, SmN.nil, fun x hx => by simp at hx, Nat.le_refl _, Nat.le_refl _, Nat.le_refl _, World.ownsRow_nil _ _ _ _, World.ownsRow_nil _ _ _ _, HC0.out, Bar.refl _ _⟩
  case round =>
    obtain ⟨i, kc, ns, L, hi, rfl, hln, hsm, hok, hsu, hle, hkc, hn, hl, hc, hb⟩ := hrel
    have HLN := hidG hln
    have hln3 : ns.length ≤ 63 := by omega
    have HSM := hidG hsm
    have HOK0 := hidG hok
    have HSU0 := hidG hsu
    have HLE := hidG hle
    have HN := hidG hn
    have HL := hidG hl
    have HC := hidG hc
    have HB := hidG hb
    obtain ⟨p1, c1, rfl⟩ := own_shape hn
    obtain ⟨p2, c2, rfl⟩ := own_shape hl
    clear hln hsm hok hsu hle hn hl hc hb
    by_cases hlt : i < most
    · go_wp2_with fail
      go_loop [6] (fun lv => ∃ P M : List Int, L = P ++ M ∧ lv = .slice p2 M.length c2) (fun lv => match lv with | .slice _ n _ => n | _ => 0)
      case atStart => exact ⟨[], L, rfl, rfl⟩
      case round =>
        obtain ⟨P, M, hPM, rfl⟩ := hrel
        have HPM := hidG hPM
        have hml : M.length ≤ 70 := by have := HLE.out; have h2 := congrArg List.length hPM; simp at h2; omega
        have HLM : Hid (wr.ownsRow w.heap.size 3 1 (.slice p2 M.length c2) M.length (ints M)) := by
          unfold Hid; have h := HL.out; rw [HPM.out] at h; exact own_suf h
        have HOM : Hid (okL M) := by unfold Hid; have h := HOK0.out; rw [HPM.out] at h; exact h.suf
        have HSM2 : Hid (sumL M ≤ sumL L ∧ M.length ≤ L.length) := by unfold Hid; rw [HPM.out]; exact ⟨sum_suf P M, len_suf P M⟩
        clear hPM
        rcases M with _ | ⟨m, M⟩
        · have HOK : Hid (okL []) := fun x hx => by simp at hx
          have HSU : Hid (sumL [] ≤ 4 * i) := Nat.zero_le _
          have HLE2 := HLE
          clear HLE
          have HLE : Hid (([] : List Int).length ≤ i) := Nat.zero_le _
          go_wp2_with fail
          refine (pickX_any g N kc 3 _ _ HC.out rfl (by omega) (by decide) (by decide)).mono ?_
          rintro e w2 ⟨r, k2, rfl, hr, hk2, hc2, hb2⟩
          have HC2 := hidG hc2
          have HB2 := hidG (HB.out.trans hb2)
          have HN2 := hidG (own_bar HN.out hb2 hgw)
          have HL2 := hidG (own_bar HLM.out hb2 hgw)
          clear hc2 hb2
          by_cases hr0 : r = 0
          · subst hr0
            clear hr
            go_wp2_with fail
            refine (pickX_any g N k2 5 _ _ HC2.out rfl (by omega) (by decide) (by decide)).mono ?_
            rintro e w3 ⟨kk, k3, rfl, hkk, hk3, hc3, hb3⟩
            have HC3 := hidG hc3
            have HB3 := hidG (HB2.out.trans hb3)
            have HN3 := hidG (own_bar HN2.out hb3 hgw)
            have HL3 := hidG (own_bar HL2.out hb3 hgw)
            clear hc3 hb3
            go_wp2_with (at_builtin; refine wpList_appN (n := ns.length) (base := w.heap.size) (xs := cellsN ns) (x := (⟨1, ⟨#[]⟩, ((kk : Nat) : Int)⟩, 0)) rfl _ _ rfl rfl ?own _ rfl ?hH ?hn ?hb ?_)
            case own => exact HN3.out
            case hH => rfl
            case hn => omega
            case hb => have := HB3.out.size; omega
            intro g4 c4 w4 hown4 hgr4
            have hbe4 : Below w.heap.size w3 w4 := ((Below.refl _ _).alloc (by have := HB3.out.size; omega) _).grown hgr4 (by have := HB3.out.size; simp; omega) (fun k e => (HN3.out.lt k e).1)
            have HB4 := hidG (HB3.out.then hbe4)
            have HC4 := hidG (HC3.out.below (hbe4.mono HNW.out))
            have HL4 := hidG (own_apart' (HN3.out.alloc _) (HL3.out.alloc _) (by decide) hgr4)
            have HN4 : Hid (w4.ownsRow w.heap.size 31 4 (.slice (some ⟨g4, 0, none⟩) (ns.length + 1) c4) (ns ++ [((⟨1, ⟨#[]⟩, ((kk : Nat) : Int)⟩ : Nd), (0 : Int))]).length (cellsN (ns ++ [((⟨1, ⟨#[]⟩, ((kk : Nat) : Int)⟩ : Nd), (0 : Int))]))) := by
              unfold Hid; rw [List.length_append, cellsN_snoc]; exact hown4
            have HSM4 : Hid (SmN (ns ++ [((⟨1, ⟨#[]⟩, ((kk : Nat) : Int)⟩ : Nd), (0 : Int))])) := HSM.out.snoc (by show (0 : Nat) ≤ 10000; omega) ⟨by show (-1 : Int) ≤ (kk : Int); omega, by show (kk : Int) ≤ 10; omega⟩
            clear hbe4 hown4 hgr4
            go_wp2_with (at_builtin; refine wpList_appI (n := 0) (base := w.heap.size) (xs := ints ([] : List Int)) rfl _ _ rfl rfl ?own2 _ rfl ?hH2 ?hn2 ?hb2 ?_)
            case own2 => exact HL4.out
            case hH2 => rfl
            case hn2 => omega
            case hb2 => have := HB4.out.size; omega
            intro g5 c5 w5 hown5 hgr5
            have hbe5 : Below w.heap.size w4 w5 := ((Below.refl _ _).alloc (by have := HB4.out.size; omega) _).grown hgr5 (by have := HB4.out.size; simp; omega) (fun k e => (HL4.out.lt k e).1)
            have HB5 := hidG (HB4.out.then hbe5)
            have HC5 := hidG (HC4.out.below (hbe5.mono HNW.out))
            have HN5 := hidG (own_apart' (HL4.out.alloc _) (HN4.out.alloc _) (by decide) hgr5)
            have HL5 : Hid (w5.ownsRow w.heap.size 3 1 (.slice (some ⟨g5, 0, none⟩) (0 + 1) c5) (((kk : Nat) : Int) :: ([] : List Int)).length (ints (((kk : Nat) : Int) :: ([] : List Int)))) := by
              unfold Hid; rw [ints_cons]; exact hown5
            clear hbe5 hown5 hgr5
            go_wp2
            go_roundw
            case rel => exact ⟨i + 1, k3, _, _, by omega, by go_num, by rw [List.length_append, HLN.out]; rfl, HSM4.out, HOK.out.cons (by omega) (by omega), by rw [sumL_cons]; have := HSU.out; simp; omega, by rw [List.length_cons]; have := HLE.out; omega, by rw [List.length_append]; show k3 ≤ k + 8 * (ns.length + 1); omega, HN5.out, HL5.out, HC5.out, HB5.out⟩
            case measure => simp [intOf]; omega
          · have hz : ((r : Int) == 0) = false := by rw [beq_eq_false_iff_ne]; omega
            clear hr0 hr
            go_wp2_with fail
            refine (leaf_any g N k2 _ HC2.out (by omega)).mono ?_
            rintro e w3 ⟨kd, u, k3, rfl, hus, hk3, hc3, hb3⟩
            have HC3 := hidG hc3
            have HB3 := hidG (HB2.out.trans hb3)
            have HN3 := hidG (own_bar HN2.out hb3 hgw)
            have HL3 := hidG (own_bar HL2.out hb3 hgw)
            have HUS := hidG hus
            clear hc3 hb3 hus
            go_wp2_with (at_builtin; refine wpList_appN (n := ns.length) (base := w.heap.size) (xs := cellsN ns) (x := (⟨kd, u, 0⟩, 0)) rfl _ _ rfl rfl ?own _ rfl ?hH ?hn ?hb ?_)
            case own => exact HN3.out
            case hH => rfl
            case hn => omega
            case hb => have := HB3.out.size; omega
            intro g4 c4 w4 hown4 hgr4
            have hbe4 : Below w.heap.size w3 w4 := ((Below.refl _ _).alloc (by have := HB3.out.size; omega) _).grown hgr4 (by have := HB3.out.size; simp; omega) (fun k e => (HN3.out.lt k e).1)
            have HB4 := hidG (HB3.out.then hbe4)
            have HC4 := hidG (HC3.out.below (hbe4.mono HNW.out))
            have HL4 := hidG (own_apart' (HN3.out.alloc _) (HL3.out.alloc _) (by decide) hgr4)
            have HN4 : Hid (w4.ownsRow w.heap.size 31 4 (.slice (some ⟨g4, 0, none⟩) (ns.length + 1) c4) (ns ++ [((⟨kd, u, 0⟩ : Nd), (0 : Int))]).length (cellsN (ns ++ [((⟨kd, u, 0⟩ : Nd), (0 : Int))]))) := by
              unfold Hid; rw [List.length_append, cellsN_snoc]; exact hown4
            have HSM4 : Hid (SmN (ns ++ [((⟨kd, u, 0⟩ : Nd), (0 : Int))])) := HSM.out.snoc (by have := HUS.out; show u.size ≤ 10000; omega) (by show (-1 : Int) ≤ 0 ∧ (0 : Int) ≤ 10; omega)
            clear hbe4 hown4 hgr4
            go_wp2
            go_roundw
            case rel => exact ⟨i + 1, k3, _, _, by omega, by go_num, by rw [List.length_append, HLN.out]; rfl, HSM4.out, HOK.out, by have := HSU.out; omega, by have := HLE.out; omega, by rw [List.length_append]; show k3 ≤ k + 8 * (ns.length + 1); omega, HN4.out, HL4.out, HC4.out, HB4.out⟩
            case measure => simp [intOf]; omega
        · have hm := HOM.out m (by simp)
          obtain ⟨gl, cl, he, hbl, hgl⟩ := HLM.out.form (by simp)
          cases he
          have hcap := own_cap HLM.out
          have hcm := HLM.out.cellAt M.length (by simp)
          rw [ints_at] at hcm
          have hfm := HLM.out.frozenAt M.length
          unfold maxLen at hcap
          rw [List.length_cons] at hcap hml
          rw [List.length_cons]
          by_cases hm0 : m = 0
          · subst hm0
            go_wp2_with fail
            go_round
            case rel => exact ⟨P ++ [0], M, by rw [HPM.out]; simp, rfl⟩
            case measure => simp
          · have zm : (m == 0) = false := by rw [beq_eq_false_iff_ne]; exact hm0
            have hst := HLM.out.stored M.length (.int .i64 (m - 1))
            rw [ints_set] at hst
            have HLS := hidG hst.1
            have HNS := hidG (own_apart' HLM.out HN.out (by decide) hst.2)
            have HBS : Hid (Below w.heap.size wr (wr.setCell ⟨gl, M.length, none⟩ (.int .i64 (m - 1)))) := (Below.refl _ _).setCell (p := ⟨gl, M.length, none⟩) hbl _
            have HCS := hidG (HC.out.below (HBS.out.mono HNW.out))
            have HBR := hidG (HB.out.then HBS.out)
            clear hst
            have HOK : Hid (okL ((m - 1) :: M)) := HOM.out.tail.cons (by omega) (by omega)
            have HSU : Hid (sumL ((m - 1) :: M) ≤ 4 * i) := by
              unfold Hid; have h1 := HSM2.out.1; have h2 := HSU0.out; rw [sumL_cons] at h1 ⊢; omega
            have HLE2 := HLE
            clear HLE
            have HLE : Hid (((m - 1) :: M).length ≤ i) := by unfold Hid; have h1 := HSM2.out.2; have h2 := HLE2.out; simp at h1 ⊢; omega
            go_wp2_with fail
            refine (pickX_any g N kc 3 _ _ HCS.out rfl (by omega) (by decide) (by decide)).mono ?_
            rintro e w2 ⟨r, k2, rfl, hr, hk2, hc2, hb2⟩
            have HC2 := hidG hc2
            have HB2 := hidG (HBR.out.trans hb2)
            have HN2 := hidG (own_bar HNS.out hb2 hgw)
            have HL2 := hidG (own_bar HLS.out hb2 hgw)
            clear hc2 hb2
            by_cases hr0 : r = 0
            · subst hr0
              clear hr
              go_wp2_with fail
              refine (pickX_any g N k2 5 _ _ HC2.out rfl (by omega) (by decide) (by decide)).mono ?_
              rintro e w3 ⟨kk, k3, rfl, hkk, hk3, hc3, hb3⟩
              have HC3 := hidG hc3
              have HB3 := hidG (HB2.out.trans hb3)
              have HN3 := hidG (own_bar HN2.out hb3 hgw)
              have HL3 := hidG (own_bar HL2.out hb3 hgw)
              clear hc3 hb3
              go_wp2_with (at_builtin; refine wpList_appN (n := ns.length) (base := w.heap.size) (xs := cellsN ns) (x := (⟨1, ⟨#[]⟩, ((kk : Nat) : Int)⟩, 0)) rfl _ _ rfl rfl ?own _ rfl ?hH ?hn ?hb ?_)
              case own => exact HN3.out
              case hH => rfl
              case hn => omega
              case hb => have := HB3.out.size; omega
              intro g4 c4 w4 hown4 hgr4
              have hbe4 : Below w.heap.size w3 w4 := ((Below.refl _ _).alloc (by have := HB3.out.size; omega) _).grown hgr4 (by have := HB3.out.size; simp; omega) (fun k e => (HN3.out.lt k e).1)
              have HB4 := hidG (HB3.out.then hbe4)
              have HC4 := hidG (HC3.out.below (hbe4.mono HNW.out))
              have HL4 := hidG (own_apart' (HN3.out.alloc _) (HL3.out.alloc _) (by decide) hgr4)
              have HN4 : Hid (w4.ownsRow w.heap.size 31 4 (.slice (some ⟨g4, 0, none⟩) (ns.length + 1) c4) (ns ++ [((⟨1, ⟨#[]⟩, ((kk : Nat) : Int)⟩ : Nd), (0 : Int))]).length (cellsN (ns ++ [((⟨1, ⟨#[]⟩, ((kk : Nat) : Int)⟩ : Nd), (0 : Int))]))) := by
                unfold Hid; rw [List.length_append, cellsN_snoc]; exact hown4
              have HSM4 : Hid (SmN (ns ++ [((⟨1, ⟨#[]⟩, ((kk : Nat) : Int)⟩ : Nd), (0 : Int))])) := HSM.out.snoc (by show (0 : Nat) ≤ 10000; omega) ⟨by show (-1 : Int) ≤ (kk : Int); omega, by show (kk : Int) ≤ 10; omega⟩
              clear hbe4 hown4 hgr4
              go_wp2_with (at_builtin; refine wpList_appI (n := (M.length + 1)) (base := w.heap.size) (xs := ints ((m - 1) :: M)) rfl _ _ rfl rfl ?own2 _ rfl ?hH2 ?hn2 ?hb2 ?_)
              case own2 => exact HL4.out
              case hH2 => rfl
              case hn2 => omega
              case hb2 => have := HB4.out.size; omega
              intro g5 c5 w5 hown5 hgr5
              have hbe5 : Below w.heap.size w4 w5 := ((Below.refl _ _).alloc (by have := HB4.out.size; omega) _).grown hgr5 (by have := HB4.out.size; simp; omega) (fun k e => (HL4.out.lt k e).1)
              have HB5 := hidG (HB4.out.then hbe5)
              have HC5 := hidG (HC4.out.below (hbe5.mono HNW.out))
              have HN5 := hidG (own_apart' (HL4.out.alloc _) (HN4.out.alloc _) (by decide) hgr5)
              have HL5 : Hid (w5.ownsRow w.heap.size 3 1 (.slice (some ⟨g5, 0, none⟩) ((M.length + 1) + 1) c5) (((kk : Nat) : Int) :: ((m - 1) :: M)).length (ints (((kk : Nat) : Int) :: ((m - 1) :: M)))) := by
                unfold Hid; rw [ints_cons]; exact hown5
              clear hbe5 hown5 hgr5
              go_wp2
              go_roundw
              case rel => exact ⟨i + 1, k3, _, _, by omega, by go_num, by rw [List.length_append, HLN.out]; rfl, HSM4.out, HOK.out.cons (by omega) (by omega), by rw [sumL_cons]; have := HSU.out; simp; omega, by rw [List.length_cons]; have := HLE.out; omega, by rw [List.length_append]; show k3 ≤ k + 8 * (ns.length + 1); omega, HN5.out, HL5.out, HC5.out, HB5.out⟩
              case measure => simp [intOf]; omega
            · have hz : ((r : Int) == 0) = false := by rw [beq_eq_false_iff_ne]; omega
              clear hr0 hr
              go_wp2_with fail
              refine (leaf_any g N k2 _ HC2.out (by omega)).mono ?_
              rintro e w3 ⟨kd, u, k3, rfl, hus, hk3, hc3, hb3⟩
              have HC3 := hidG hc3
              have HB3 := hidG (HB2.out.trans hb3)
              have HN3 := hidG (own_bar HN2.out hb3 hgw)
              have HL3 := hidG (own_bar HL2.out hb3 hgw)
              have HUS := hidG hus
              clear hc3 hb3 hus
              go_wp2_with (at_builtin; refine wpList_appN (n := ns.length) (base := w.heap.size) (xs := cellsN ns) (x := (⟨kd, u, 0⟩, 0)) rfl _ _ rfl rfl ?own _ rfl ?hH ?hn ?hb ?_)
              case own => exact HN3.out
              case hH => rfl
              case hn => omega
              case hb => have := HB3.out.size; omega
              intro g4 c4 w4 hown4 hgr4
              have hbe4 : Below w.heap.size w3 w4 := ((Below.refl _ _).alloc (by have := HB3.out.size; omega) _).grown hgr4 (by have := HB3.out.size; simp; omega) (fun k e => (HN3.out.lt k e).1)
              have HB4 := hidG (HB3.out.then hbe4)
              have HC4 := hidG (HC3.out.below (hbe4.mono HNW.out))
              have HL4 := hidG (own_apart' (HN3.out.alloc _) (HL3.out.alloc _) (by decide) hgr4)
              have HN4 : Hid (w4.ownsRow w.heap.size 31 4 (.slice (some ⟨g4, 0, none⟩) (ns.length + 1) c4) (ns ++ [((⟨kd, u, 0⟩ : Nd), (0 : Int))]).length (cellsN (ns ++ [((⟨kd, u, 0⟩ : Nd), (0 : Int))]))) := by
                unfold Hid; rw [List.length_append, cellsN_snoc]; exact hown4
              have HSM4 : Hid (SmN (ns ++ [((⟨kd, u, 0⟩ : Nd), (0 : Int))])) := HSM.out.snoc (by have := HUS.out; show u.size ≤ 10000; omega) (by show (-1 : Int) ≤ 0 ∧ (0 : Int) ≤ 10; omega)
              clear hbe4 hown4 hgr4
              go_wp2
              go_roundw
              case rel => exact ⟨i + 1, k3, _, _, by omega, by go_num, by rw [List.length_append, HLN.out]; rfl, HSM4.out, HOK.out, by have := HSU.out; omega, by have := HLE.out; omega, by rw [List.length_append]; show k3 ≤ k + 8 * (ns.length + 1); omega, HN4.out, HL4.out, HC4.out, HB4.out⟩
              case measure => simp [intOf]; omega
    · go_wp2_with fail
      go_loopw [5, 6] (fun ov lv wr => ∃ (k' : Nat) (ns : List (Nd × Int)) (L : List Int), SmN ns ∧ okL L ∧ ns.length + sumL L ≤ 320 ∧ L.length ≤ 63 ∧ k' ≤ k + 8 * ns.length ∧ wr.ownsRow w.heap.size 31 4 ov ns.length (cellsN ns) ∧ wr.ownsRow w.heap.size 3 1 lv L.length (ints L) ∧ IsCur g N wr k' ∧ Bar g w wr) (fun ov _ _ => match ov with | .slice _ n _ => 400 - n | _ => 0)
      case atStart => exact ⟨kc, ns, L, HSM.out, HOK0.out, by have := HSU0.out; omega, by have := HLE.out; omega, hkc, HN.out, HL.out, HC.out, HB.out⟩
      case round =>
        clear HLN HSM HOK0 HSU0 HLE HN HL HC HB hln3 hkc
        obtain ⟨kc, ns, L, hsm, hok, hsu, hle, hkc, hn, hl, hc, hb⟩ := hrel
        have hln3 : ns.length ≤ 320 := by omega
        have HSM := hidG hsm
        have HOK0 := hidG hok
        have HSU0 := hidG hsu
        have HLE := hidG hle
        have HN := hidG hn
        have HL := hidG hl
        have HC := hidG hc
        have HB := hidG hb
        obtain ⟨p1, c1, rfl⟩ := own_shape hn
        obtain ⟨p2, c2, rfl⟩ := own_shape hl
        clear hsm hok hsu hle hn hl hc hb
        go_wp2_with fail
        go_loop [6] (fun lv => ∃ P M : List Int, L = P ++ M ∧ lv = .slice p2 M.length c2) (fun lv => match lv with | .slice _ n _ => n | _ => 0)
        case atStart => exact ⟨[], L, rfl, rfl⟩
        case round =>
          obtain ⟨P, M, hPM, rfl⟩ := hrel
          have HPM := hidG hPM
          have hml : M.length ≤ 70 := by have := HLE.out; have h2 := congrArg List.length hPM; simp at h2; omega
          have HLM : Hid (wr.ownsRow w.heap.size 3 1 (.slice p2 M.length c2) M.length (ints M)) := by
            unfold Hid; have h := HL.out; rw [HPM.out] at h; exact own_suf h
          have HOM : Hid (okL M) := by unfold Hid; have h := HOK0.out; rw [HPM.out] at h; exact h.suf
          have HSM2 : Hid (sumL M ≤ sumL L ∧ M.length ≤ L.length) := by unfold Hid; rw [HPM.out]; exact ⟨sum_suf P M, len_suf P M⟩
          clear hPM
          rcases M with _ | ⟨m, M⟩
          · go_wp2_with fail
            go_ret
            exact ⟨.slice p1 ns.length c1, rfl, ns, HN.out, HSM.out, by omega, kc, by omega, HC.out, HB.out⟩
          · have hm := HOM.out m (by simp)
            obtain ⟨gl, cl, he, hbl, hgl⟩ := HLM.out.form (by simp)
            cases he
            have hcap := own_cap HLM.out
            have hcm := HLM.out.cellAt M.length (by simp)
            rw [ints_at] at hcm
            have hfm := HLM.out.frozenAt M.length
            unfold maxLen at hcap
            rw [List.length_cons] at hcap hml
            rw [List.length_cons]
            by_cases hm0 : m = 0
            · subst hm0
              go_wp2_with fail
              go_round
              case rel => exact ⟨P ++ [0], M, by rw [HPM.out]; simp, rfl⟩
              case measure => simp
            · have zm : (m == 0) = false := by rw [beq_eq_false_iff_ne]; exact hm0
              have hst := HLM.out.stored M.length (.int .i64 (m - 1))
              rw [ints_set] at hst
              have HLS := hidG hst.1
              have HNS := hidG (own_apart' HLM.out HN.out (by decide) hst.2)
              have HBS : Hid (Below w.heap.size wr (wr.setCell ⟨gl, M.length, none⟩ (.int .i64 (m - 1)))) := (Below.refl _ _).setCell (p := ⟨gl, M.length, none⟩) hbl _
              have HCS := hidG (HC.out.below (HBS.out.mono HNW.out))
              have HBR := hidG (HB.out.then HBS.out)
              clear hst
              have HOK : Hid (okL ((m - 1) :: M)) := HOM.out.tail.cons (by omega) (by omega)
              have HSU : Hid (ns.length + 1 + sumL ((m - 1) :: M) ≤ 320) := by
                unfold Hid; have h1 := HSM2.out.1; have h2 := HSU0.out; rw [sumL_cons] at h1 ⊢; omega
              have HLE2 : Hid (((m - 1) :: M).length ≤ 63) := by unfold Hid; have h1 := HSM2.out.2; have h2 := HLE.out; simp at h1 ⊢; omega
              have hln4 : ns.length ≤ 319 := by have := HSU.out; omega
              go_wp2_with fail
              refine (leaf_any g N kc _ HCS.out (by omega)).mono ?_
              rintro e w3 ⟨kd, u, k3, rfl, hus, hk3, hc3, hb3⟩
              have HC3 := hidG hc3
              have HB3 := hidG (HBR.out.trans hb3)
              have HN3 := hidG (own_bar HNS.out hb3 hgw)
              have HL3 := hidG (own_bar HLS.out hb3 hgw)
              have HUS := hidG hus
              clear hc3 hb3 hus
              go_wp2_with (at_builtin; refine wpList_appN (n := ns.length) (base := w.heap.size) (xs := cellsN ns) (x := (⟨kd, u, 0⟩, 0)) rfl _ _ rfl rfl ?own _ rfl ?hH ?hn ?hb ?_)
              case own => exact HN3.out
              case hH => rfl
              case hn => omega
              case hb => have := HB3.out.size; omega
              intro g4 c4 w4 hown4 hgr4
              have hbe4 : Below w.heap.size w3 w4 := ((Below.refl _ _).alloc (by have := HB3.out.size; omega) _).grown hgr4 (by have := HB3.out.size; simp; omega) (fun k e => (HN3.out.lt k e).1)
              have HB4 := hidG (HB3.out.then hbe4)
              have HC4 := hidG (HC3.out.below (hbe4.mono HNW.out))
              have HL4 := hidG (own_apart' (HN3.out.alloc _) (HL3.out.alloc _) (by decide) hgr4)
              have HN4 : Hid (w4.ownsRow w.heap.size 31 4 (.slice (some ⟨g4, 0, none⟩) (ns.length + 1) c4) (ns ++ [((⟨kd, u, 0⟩ : Nd), (0 : Int))]).length (cellsN (ns ++ [((⟨kd, u, 0⟩ : Nd), (0 : Int))]))) := by
                unfold Hid; rw [List.length_append, cellsN_snoc]; exact hown4
              have HSM4 : Hid (SmN (ns ++ [((⟨kd, u, 0⟩ : Nd), (0 : Int))])) := HSM.out.snoc (by have := HUS.out; show u.size ≤ 10000; omega) (by show (-1 : Int) ≤ 0 ∧ (0 : Int) ≤ 10; omega)
              clear hbe4 hown4 hgr4
              go_wp2
              go_roundw
              case rel => exact ⟨k3, _, _, HSM4.out, HOK.out, by rw [List.length_append]; exact HSU.out, HLE2.out, by rw [List.length_append]; show k3 ≤ k + 8 * (ns.length + 1); omega, HN4.out, HL4.out, HC4.out, HB4.out⟩
              case measure => simp; omega
end Go.Proofs.YtdngpnlbhadbpaaDoor
