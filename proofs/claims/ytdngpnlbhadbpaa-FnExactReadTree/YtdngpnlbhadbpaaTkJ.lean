import Derived.Test.YtdngpnlbhadbpaaTkI
namespace Go.Proofs.Ytdngpnlbhadbpaa
open Go.ChangeShapes Go.WideShapes Go.ChangeAt Go.RowKit
theorem hexBitI_eq : ∀ v : Nat, v < 16 → ∀ q : Nat, q < 4 → wrap64 (48 + bits .and .i64 ((v : Int) / 2 ^ (3 - (q : Int)).toNat) 1) % 256 = ((hexBit v (3 - q)).toNat : Int) := by decide +kernel
set_option maxRecDepth 100000 in
set_option maxHeartbeats 8000000 in
theorem l3Bits_x (s : ByteArray) (i r : Nat) (w : World) (hs : s.size ≤ 20000) (hi : i + 2 < s.size) (hd : s[i + 1].toNat = 120) (hr : runL hexB (s.data.toList.drop (i + 2)) = r) :
    Calls Try.prog 21 #[.string s, .int .i64 (i : Nat)] w fun e w' => e = bitR (hexL ((s.data.toList.drop (i + 2)).take r)) (i + 2 + r) ∧ Below w.heap.size w w' := by
  have HR : Hid (∀ j, i + 2 ≤ j → j ≤ s.size → runL hexB (s.data.toList.drop (i + 2)) = j - (i + 2) → bitR (hexL ((s.data.toList.drop (i + 2)).take (j - (i + 2)))) j = bitR (hexL ((s.data.toList.drop (i + 2)).take r)) (i + 2 + r)) := fun j h1 h2 h3 => by
    rw [show j - (i + 2) = r by omega, show j = i + 2 + r by omega]
  obtain ⟨R, hR⟩ : ∃ R, bitR (hexL ((s.data.toList.drop (i + 2)).take r)) (i + 2 + r) = R := ⟨_, rfl⟩
  rw [hR] at HR ⊢
  clear hR hr
  obtain ⟨i0, hinf, hz0, hz1, hz2⟩ := info_parts Try.info_u8
  have z1 : ((s[i + 1].toNat : Int) == 98) = false := by rw [beq_eq_false_iff_ne]; omega
  have z2 : ((s[i + 1].toNat : Int) == 120) = true := by rw [beq_iff_eq]; omega
  clear hd
  go_enter Try.func21, Try.ntmps21
  go_wp2_with fail
  clear z1 z2
  have hbx := bx_new w [.int .i64 0, .string ⟨#[]⟩, .int .i64 0] 32
  obtain ⟨W0, hW0⟩ : ∃ W0, w.alloc (.cells #[.int .i64 0, .string ⟨#[]⟩, .int .i64 0] 32) = W0 := ⟨_, rfl⟩
  have HBW : Hid (Below w.heap.size w W0) := by unfold Hid; rw [← hW0]; exact below_alloc _ _
  have HS0 : Hid (W0.heap.size = w.heap.size + 1) := by unfold Hid; rw [← hW0]; simp
  rw [hW0] at hbx ⊢
  have HBX : Hid (∀ W, Below (w.heap.size + 1) W0 W → Bx W w.heap.size [.int .i64 0, .string ⟨#[]⟩, .int .i64 0]) := fun W hb => hbx.below (by omega) hb
  clear hW0 hbx
  go_loopw [5, 6] (fun kv v wr => ∃ (k : Nat) (dd acc : List UInt8), i + 2 ≤ k ∧ k ≤ s.size ∧ acc.length + 4 * (i + 2) = 4 * k ∧ kv = .int .i64 (k : Nat) ∧ dd = (s.data.toList.drop (i + 2)).take (k - (i + 2)) ∧ dd.all hexB = true ∧ acc = hexL dd ∧ wr.ownsRow (w.heap.size + 1) 5 1 v acc.length (Lib.byteCells acc) ∧ Below (w.heap.size + 1) W0 wr) (fun kv _ _ => s.size - (intOf kv).toNat)
  case atStart => exact ⟨i + 2, [], [], by omega, by omega, by simp, by go_num, by simp, rfl, rfl, ⟨rfl, .inl ⟨rfl, rfl⟩⟩, Below.refl _ _⟩
  case round =>
    obtain ⟨k, dd, acc, hik, hk, hal, rfl, hdd, hall, hacc, hown, hB⟩ := hrel
    have HD := hidG hdd
    have HA := hidG hacc
    have HL := hidG hall
    have hal' : acc.length + 4 * (i + 2) ≤ 4 * k := by omega
    have HAL := hidG hal
    clear hdd hacc hall hal
    have HB := hidG hB
    have kk := HBX.out _ hB
    have HX := hidG kk
    obtain ⟨c0, c1, c2⟩ := kk.c3
    have f0 := kk.frozen 0
    have f1 := kk.frozen 1
    have f2 := kk.frozen 2
    clear kk hB
    by_cases hgo : ∃ h : k < s.size, hexB s[k] = true
    · obtain ⟨hlt, hc⟩ := hgo
      have HC := hidG hc
      have hlt16 := hexN_lt hc
      have HN : Hid (dd ++ [s[k]] = (s.data.toList.drop (i + 2)).take (k + 1 - (i + 2)) ∧ (dd ++ [s[k]]).all hexB = true ∧ acc ++ hex4 (hexN s[k]) = hexL (dd ++ [s[k]])) := ⟨by rw [take_snoc_at hik hlt, ← HD.out], by rw [List.all_append, HL.out]; simp [HC.out], by rw [hexL_snoc, ← HA.out]⟩
      obtain ⟨v, hv⟩ : ∃ v, hexN s[k] = v := ⟨_, rfl⟩
      rw [hv] at HN hlt16
      have HV := hidG hlt16
      obtain ⟨V, hV⟩ : ∃ V : Int, (v : Int) = V := ⟨_, rfl⟩
      have HVV : Hid (((hexN s[k] : Nat) : Int) = V) := by unfold Hid; rw [hv]; exact hV
      have HVI := hidG hV
      have hv0 : 0 ≤ V := by omega
      have hv15 : V ≤ 15 := by omega
      have HOA := hidG hown
      clear hc hv hV hlt16 hown c0 c1 c2 f0 f1 f2
      go_wp2_with (go_at_call 34; refine (l3Hex_yes s[k] _ HC.out).mono ?_; rintro e w' ⟨rfl, rfl⟩; rw [HVV.out])
      go_loopw [6, 8] (fun ov jv wq => ∃ (q : Nat) (p : Int) (acc2 : List UInt8), q ≤ 4 ∧ acc2.length = acc.length + q ∧ -1 ≤ p ∧ p ≤ 3 ∧ p = 3 - (q : Int) ∧ jv = .int .i64 p ∧ acc2 = acc ++ (hex4 v).take q ∧ wq.ownsRow (w.heap.size + 1) 5 1 ov acc2.length (Lib.byteCells acc2) ∧ Below (w.heap.size + 1) W0 wq) (fun _ jv _ => (intOf jv + 1).toNat)
      case atStart => exact ⟨0, 3, acc, by omega, by omega, by omega, by omega, rfl, rfl, by simp, HOA.out, HB.out⟩
      case round =>
        obtain ⟨q, p, acc2, hq, hal2, hp1, hp3, hpq, rfl, hacc2, hown2, hB2⟩ := hrel
        have HP := hidG hpq
        have HA2 := hidG hacc2
        have HB := hidG hB2
        have HAL2 := hidG hal2
        have hal3 : acc2.length ≤ 80004 := by omega
        clear hacc2 hB2 hal2
        by_cases hp0 : 0 ≤ p
        · have HS : Hid (acc2 ++ [hexBit v (3 - q)] = acc ++ (hex4 v).take (q + 1)) := by
            unfold Hid; rw [hex4_take q (by omega), HA2.out, List.append_assoc]
          have HQ : Hid (q + 1 ≤ 4 ∧ acc2.length + 1 = acc.length + (q + 1) ∧ p - 1 = 3 - ((q + 1 : Nat) : Int)) := ⟨by omega, by have := HAL2.out; omega, by omega⟩
          obtain ⟨x, hx⟩ : ∃ x, wrap64 (48 + bits .and .i64 (V / 2 ^ p.toNat) 1) % 256 = x := ⟨_, rfl⟩
          have HXX : Hid (x = ((hexBit v (3 - q)).toNat : Int)) := by
            unfold Hid; rw [← hx, HP.out, ← HVI.out]; exact hexBitI_eq v HV.out q (by omega)
          clear hpq
          go_wp2_with (at_builtin; refine wpList_append_own_at _ rfl _ _ 47 rfl (w.heap.size + 1) 5 i0 (.int .u8 0) 1 1 Try.underlying47 hinf hz0 hz1 hz2 rfl (by decide) u6 acc2.length _ rfl (hown2.alloc _) ⟨wr.heap.size, 0, none⟩ 1 1 [.int .u8 x] rfl rfl ?c1 ?c2 ?c3 ?c4 ?c5 ?_)
          case c1 =>
            intro i u hi
            match i, hi with
            | 0, hi => simp at hi; subst hi; simp [Addr.add]
          case c2 => intro u hu; simp at hu; subst hu; rfl
          case c3 => unfold maxLen; omega
          case c4 => omega
          case c5 => have := HB.out.size; have := HS0.out; simp; omega
          intro v2 w2 hown3 hgr2 _ _
          have hB3 : Below (w.heap.size + 1) W0 w2 := ((HB.out.alloc (by have := HB.out.size; have := HS0.out; omega) _).grown hgr2 (by have := HB.out.size; have := HS0.out; simp; omega) (fun k e => (hown2.lt k e).1))
          have HB3 := hidG hB3
          have HO : Hid (w2.ownsRow (w.heap.size + 1) 5 1 v2 (acc2 ++ [hexBit v (3 - q)]).length (Lib.byteCells (acc2 ++ [hexBit v (3 - q)]))) := by
            unfold Hid
            have e : Lib.byteCells (acc2 ++ [hexBit v (3 - q)]) = Lib.byteCells acc2 ++ [.int .u8 x] := by rw [HXX.out]; simp [Lib.byteCells]
            rw [e, List.length_append]; exact hown3
          clear hown2 hown3 hgr2 hB3
          go_wp2
          go_roundw
          case rel => exact ⟨q + 1, p - 1, acc2 ++ [hexBit v (3 - q)], HQ.out.1, by have := HQ.out.2.1; simp; omega, by omega, by omega, HQ.out.2.2, by go_num, HS.out, HO.out, HB3.out⟩
          case measure => simp [intOf]; omega
        · have hpe : q = 4 := by omega
          subst hpe
          have hpe : p = -1 := by omega
          subst hpe
          have HN2 : Hid (acc2 = hexL (dd ++ [s[k]])) := by unfold Hid; rw [← HN.out.2.2, HA2.out]; rfl
          have HO := hidG hown2
          clear hpq HP hown2
          go_wp2_with fail
          go_roundw
          case rel => exact ⟨k + 1, dd ++ [s[k]], acc2, by omega, by omega, by have := HAL.out; have := HAL2.out; omega, by go_num, HN.out.1, HN.out.2.1, HN2.out, HO.out, HB.out⟩
          case measure => simp [intOf]; omega
    · have hno : ∀ h : k < s.size, hexB s[k] = false := fun h => by cases hq : hexB s[k] with
        | true => exact absurd ⟨h, hq⟩ hgo
        | false => rfl
      have HRR : Hid (bitR acc k = R) := by
        have := HR.out k hik hk (runL_drop_stop hik hk (by rw [← HD.out]; exact HL.out) hno)
        rw [← HD.out, ← HA.out] at this; exact this
      have HF : Hid ((acc.length = 0 → Ending.returned (.agg #[.int .i64 0, .string ⟨#[]⟩, .int .i64 0]) = R) ∧ (0 < acc.length → Ending.returned (.agg #[.int .i64 5, .string (strOf acc), .int .i64 (k : Nat)]) = R)) := ⟨fun h => (bitR_0 h).trans HRR.out, fun h => (bitR_1 h).trans HRR.out⟩
      clear hgo
      by_cases hlt : k < s.size
      · have HC := hidG (hno hlt)
        clear hno
        rcases Nat.eq_zero_or_pos acc.length with ha | ha
        · have HE := hidG (HF.out.1 ha)
          rcases hown.2 with ⟨rfl, _⟩ | ⟨g, cap, cur, rfl, _⟩
          · clear hown ha

            go_wp2_with (go_at_call 34; refine (l3Hex_no s[k] _ HC.out).mono ?_; rintro e w' ⟨rfl, rfl⟩)
            have hx4 := (((HX.out.set 0 (.int .i64 0)).set 1 (.string ⟨#[]⟩)).set 2 (.int .i64 0))
            obtain ⟨e0, e1, e2⟩ := hx4.c3
            refine bodyPost_ret (v := .agg #[.int .i64 0, .string ⟨#[]⟩, .int .i64 0]) ?_ rfl ⟨HE.out, ?_⟩
            · clear c0 c1 c2 f0 f1 f2
              simp [results, Try.results21, go_sem, e0, e1, e2]
            · exact ((((HBW.out.trans (HB.out.mono (by omega))).setCell (p := ⟨w.heap.size, 0, none⟩) (Nat.le_refl _) _).setCell (p := ⟨w.heap.size, 1, none⟩) (Nat.le_refl _) _).setCell (p := ⟨w.heap.size, 2, none⟩) (Nat.le_refl _) _)
          · rw [ha]
            clear hown ha

            go_wp2_with (go_at_call 34; refine (l3Hex_no s[k] _ HC.out).mono ?_; rintro e w' ⟨rfl, rfl⟩)
            have hx4 := (((HX.out.set 0 (.int .i64 0)).set 1 (.string ⟨#[]⟩)).set 2 (.int .i64 0))
            obtain ⟨e0, e1, e2⟩ := hx4.c3
            refine bodyPost_ret (v := .agg #[.int .i64 0, .string ⟨#[]⟩, .int .i64 0]) ?_ rfl ⟨HE.out, ?_⟩
            · clear c0 c1 c2 f0 f1 f2
              simp [results, Try.results21, go_sem, e0, e1, e2]
            · exact ((((HBW.out.trans (HB.out.mono (by omega))).setCell (p := ⟨w.heap.size, 0, none⟩) (Nat.le_refl _) _).setCell (p := ⟨w.heap.size, 1, none⟩) (Nat.le_refl _) _).setCell (p := ⟨w.heap.size, 2, none⟩) (Nat.le_refl _) _)
        · have HE := hidG (HF.out.2 ha)
          have hcv := conv_any hown
          rcases hown.2 with ⟨rfl, h0⟩ | ⟨g, cap, cur, rfl, _⟩
          · omega
          · have ya : ((acc.length : Int) == 0) = false := by rw [beq_eq_false_iff_ne]; omega
            clear hown ha

            go_wp2_with (go_at_call 34; refine (l3Hex_no s[k] _ HC.out).mono ?_; rintro e w' ⟨rfl, rfl⟩)
            have hx4 := (((HX.out.set 0 (.int .i64 5)).set 1 (.string (strOf acc))).set 2 (.int .i64 ((k : Nat) : Int)))
            obtain ⟨e0, e1, e2⟩ := hx4.c3
            refine bodyPost_ret (v := .agg #[.int .i64 5, .string (strOf acc), .int .i64 ((k : Nat) : Int)]) ?_ rfl ⟨HE.out, ?_⟩
            · clear c0 c1 c2 f0 f1 f2
              simp [results, Try.results21, go_sem, e0, e1, e2]
            · exact ((((HBW.out.trans (HB.out.mono (by omega))).setCell (p := ⟨w.heap.size, 0, none⟩) (Nat.le_refl _) _).setCell (p := ⟨w.heap.size, 1, none⟩) (Nat.le_refl _) _).setCell (p := ⟨w.heap.size, 2, none⟩) (Nat.le_refl _) _)
      · clear hno
        rcases Nat.eq_zero_or_pos acc.length with ha | ha
        · have HE := hidG (HF.out.1 ha)
          rcases hown.2 with ⟨rfl, _⟩ | ⟨g, cap, cur, rfl, _⟩
          · clear hown ha

            go_wp2_with fail
            have hx4 := (((HX.out.set 0 (.int .i64 0)).set 1 (.string ⟨#[]⟩)).set 2 (.int .i64 0))
            obtain ⟨e0, e1, e2⟩ := hx4.c3
            refine bodyPost_ret (v := .agg #[.int .i64 0, .string ⟨#[]⟩, .int .i64 0]) ?_ rfl ⟨HE.out, ?_⟩
            · clear c0 c1 c2 f0 f1 f2
              simp [results, Try.results21, go_sem, e0, e1, e2]
            · exact ((((HBW.out.trans (HB.out.mono (by omega))).setCell (p := ⟨w.heap.size, 0, none⟩) (Nat.le_refl _) _).setCell (p := ⟨w.heap.size, 1, none⟩) (Nat.le_refl _) _).setCell (p := ⟨w.heap.size, 2, none⟩) (Nat.le_refl _) _)
          · rw [ha]
            clear hown ha

            go_wp2_with fail
            have hx4 := (((HX.out.set 0 (.int .i64 0)).set 1 (.string ⟨#[]⟩)).set 2 (.int .i64 0))
            obtain ⟨e0, e1, e2⟩ := hx4.c3
            refine bodyPost_ret (v := .agg #[.int .i64 0, .string ⟨#[]⟩, .int .i64 0]) ?_ rfl ⟨HE.out, ?_⟩
            · clear c0 c1 c2 f0 f1 f2
              simp [results, Try.results21, go_sem, e0, e1, e2]
            · exact ((((HBW.out.trans (HB.out.mono (by omega))).setCell (p := ⟨w.heap.size, 0, none⟩) (Nat.le_refl _) _).setCell (p := ⟨w.heap.size, 1, none⟩) (Nat.le_refl _) _).setCell (p := ⟨w.heap.size, 2, none⟩) (Nat.le_refl _) _)
        · have HE := hidG (HF.out.2 ha)
          have hcv := conv_any hown
          rcases hown.2 with ⟨rfl, h0⟩ | ⟨g, cap, cur, rfl, _⟩
          · omega
          · have ya : ((acc.length : Int) == 0) = false := by rw [beq_eq_false_iff_ne]; omega
            clear hown ha

            go_wp2_with fail
            have hx4 := (((HX.out.set 0 (.int .i64 5)).set 1 (.string (strOf acc))).set 2 (.int .i64 ((k : Nat) : Int)))
            obtain ⟨e0, e1, e2⟩ := hx4.c3
            refine bodyPost_ret (v := .agg #[.int .i64 5, .string (strOf acc), .int .i64 ((k : Nat) : Int)]) ?_ rfl ⟨HE.out, ?_⟩
            · clear c0 c1 c2 f0 f1 f2
              simp [results, Try.results21, go_sem, e0, e1, e2]
            · exact ((((HBW.out.trans (HB.out.mono (by omega))).setCell (p := ⟨w.heap.size, 0, none⟩) (Nat.le_refl _) _).setCell (p := ⟨w.heap.size, 1, none⟩) (Nat.le_refl _) _).setCell (p := ⟨w.heap.size, 2, none⟩) (Nat.le_refl _) _)
end Go.Proofs.Ytdngpnlbhadbpaa
