import Derived.Test.YtebldkelihmihaaGreatDoorTgB
import Derived.Deep.RegionHeld3
import Derived.HandedShaped
import Derived.Shelf.Vars
import Derived.Deep.Slices
namespace Go.Proofs.YtebldkelihmihaaGreatDoor.L
open Go.ChangeShapes Go.WideShapes Go.ChangeAt Go.RowKit
theorem RRow.zero {base B : Nat} {W : World} {v : Value} {G : List Nr} (h : RRow base B W v G) : RRow base 0 W v G := by
  obtain ⟨xs, h1, h2⟩ := h
  refine ⟨xs, h1, fun i hi => ?_⟩
  obtain ⟨va, c0, c1, c2, c3, c4, c5, e, hq, hb⟩ := (h2 i hi).ex
  exact ⟨va, c0, c1, c2, c3, c4, c5, e, hq.mono (Nat.zero_le _), hb.mono (Nat.zero_le _)⟩
def TightS (cols : Int) (Wh : List Bool) (F : List Lr) (w : World) (e : Ending) (w' : World) : Prop := ∃ v' F' A, e = .returned v' ∧ OutR w.heap.size w' v' F' A ∧ (if flagOk cols Wh F = true then F'.length = F.length ∧ ∀ i, i < F.length → TightT Wh (F.getD i ⟨[], false, []⟩) (F'.getD i ⟨[], false, []⟩) else F' = []) ∧ Below w.heap.size w w'
theorem nr_mem {F : List Lr} {n : Nr} (h : n ∈ F.map nrOf) : ∃ f ∈ F, n = nrOf f := by
  obtain ⟨f, hf, rfl⟩ := List.mem_map.1 h
  exact ⟨f, hf, rfl⟩
theorem flag_small {cols : Int} {Wh : List Bool} {F : List Lr} (h : flagOk cols Wh F = true) : F.length ≤ 50 ∧ Wh.length ≤ 20 := by
  unfold flagOk at h
  obtain ⟨h1, h2⟩ := Bool.and_eq_true_iff.1 h
  have h2 := of_decide_eq_true h2
  unfold goodR at h1
  have h3 := of_decide_eq_true (Bool.and_eq_true_iff.1 h1).1
  omega
theorem getD_map {F : List Lr} {i : Nat} (h : i < F.length) : (F.map nrOf).getD i ⟨[], false, 0⟩ = nrOf (F.getD i ⟨[], false, []⟩) := by
  rw [List.getD_eq_getElem?_getD, List.getD_eq_getElem?_getD, List.getElem?_map, List.getElem?_eq_getElem h]
  rfl
theorem Tight.len {Wh : List Bool} {f n : Nr} (h : Tight Wh f n) : n.cs.length = f.cs.length := by
  obtain ⟨g, _, h⟩ := h
  rcases h with ⟨_, rfl⟩ | ⟨_, _, e, _⟩
  · rfl
  · exact e
set_option maxRecDepth 100000 in
set_option maxHeartbeats 4000000 in
theorem tighten_spec (cols : Int) (wv v : Value) (Wh : List Bool) (F : List Lr) (w : World) (hw : BoolsAt w wv Wh) (h : RowsAt w v F) (hs : F.length ≤ 1048576 ∧ ∀ f ∈ F, SmallR f) (hc1 : -9223372036854775808 ≤ cols) (hc2 : cols ≤ 9223372036854775807) :
    Calls Tryz.prog 6 #[.int .i64 cols, wv, v] w (TightS cols Wh F w) := by
  have HC := hidG (goodRows_spec cols v F w h hs hc1 hc2)
  have HWA := hidG hw
  have HRA := hidG h
  have HSM := hidG hs
  obtain ⟨pw, cw, rfl, w1, w2, -⟩ := hw
  obtain ⟨p, c, rfl, -⟩ := h
  unfold maxLen at w2
  clear hs
  obtain ⟨g, hg⟩ : ∃ g, goodR cols F = g := ⟨_, rfl⟩
  have HG := hidG hg
  rw [hg] at HC
  clear hg
  cases g with
  | false =>
    have HFL : Hid (flagOk cols Wh F = false) := by unfold Hid flagOk; rw [HG.out]; rfl
    go_enter Tryz.func6, Tryz.ntmps6
    go_wp2_with (go_at_call 21; refine HC.out.mono ?_; rintro e w' ⟨rfl, hb⟩; have HB := hidG hb; clear hb)
    go_ret
    exact ⟨_, [], [], rfl, OutR.nil _ _, by rw [HFL.out]; rfl, HB.out⟩
  | true =>
    by_cases hwc : (Wh.length : Int) = cols
    · have HFL : Hid (flagOk cols Wh F = true) := by unfold Hid flagOk; rw [HG.out, decide_eq_true hwc]; rfl
      have yc : (!((Wh.length : Int) == cols)) = false := by rw [Bool.not_eq_false']; simpa using hwc
      have HOKF : Hid (∀ f ∈ F, Wh.length = f.cs.length ∧ textOk f.bd = true ∧ f.cs.all textOk = true) := fun f hf => flag_row HFL.out hf
      have HSZ := hidG (flag_small HFL.out)
      go_enter Tryz.func6, Tryz.ntmps6
      go_wp2_with (go_at_call 21; refine HC.out.mono ?_; rintro e w' ⟨rfl, hb⟩; have HB := hidG hb; clear hb)
      have HRw := hidG (HRA.out.below HB.out)
      refine (l12Read_any _ F _ HRw.out HSM.out (fun f hf => ⟨(HOKF.out f hf).2.1, (HOKF.out f hf).2.2, by have := (HOKF.out f hf).1; have := HSZ.out.2; omega⟩)).mono ?_
      rintro e w3 ⟨v3, rfl, ⟨p3, c3, rfl⟩, hr3, hb3⟩
      have HR3 := hidG hr3.zero
      have HB3 : Hid (Below w.heap.size w w3) := HB.out.trans (hb3.mono HB.out.size)
      clear hr3 hb3
      go_wp2_with fail
      refine (l13All_any _ _ Wh (F.map nrOf) _ w3 (HWA.out.below HB3.out) HR3.out (fun n hn => ?ok) (by rw [List.length_map]; exact HSZ.out.1)).mono ?_
      case ok =>
        obtain ⟨f, hf, rfl⟩ := nr_mem hn
        obtain ⟨h1, h2, h3⟩ := HOKF.out f hf
        rw [nr_len]
        exact ⟨h1, by have := HSZ.out.2; omega, sm_of h2 h3⟩
      rintro e w4 ⟨v4, G4, rfl, hg4, hl4, ht4, hb4⟩
      obtain ⟨p4, c4, rfl⟩ := hg4.form
      rw [List.length_map] at hl4 ht4
      have HG4 := hidG hg4
      have HL4 := hidG hl4
      have HT4 := hidG ht4
      have HB4 : Hid (Below w.heap.size w w4) := HB3.out.trans (hb4.mono HB3.out.size)
      have HS34 : Hid (w3.heap.size ≤ w4.heap.size) := hb4.size
      clear hg4 hl4 ht4 hb4
      go_wp2_with fail
      have HAT : Hid (∀ i, i < F.length → Tight Wh (nrOf (F.getD i ⟨[], false, []⟩)) (G4.getD i ⟨[], false, 0⟩)) := fun i hi => by
        have := HT4.out i hi
        rw [getD_map hi] at this
        exact this
      refine (l13Back_any _ G4 _ w4 HG4.out.ex (fun n hn => ?ok2) (by rw [HL4.out]; exact HSZ.out.1)).mono ?_
      case ok2 =>
        obtain ⟨i, hi, rfl⟩ := List.getElem_of_mem hn
        have hiF : i < F.length := by rw [← HL4.out]; exact hi
        have h1 := HAT.out i hiF
        have e : G4.getD i ⟨[], false, 0⟩ = G4[i] := by rw [List.getD_eq_getElem?_getD, List.getElem?_eq_getElem hi]; rfl
        rw [e] at h1
        obtain ⟨k1, k2, k3⟩ := HOKF.out _ (at_mem F ⟨[], false, []⟩ hiF)
        refine ⟨?_, h1.small (sm_of k2 k3)⟩
        rw [h1.len, nr_len]
        have := HSZ.out.2
        omega
      rintro e w5 ⟨v5, F5, A5, rfl, hO5, hl5, hs5, hb5⟩
      obtain ⟨p5, c5, rfl⟩ := hO5.form
      have HO5 := hidG hO5
      have HL5 := hidG hl5
      have HS5 := hidG hs5
      have HB5 : Hid (Below w.heap.size w w5) := HB4.out.trans (hb5.mono HB4.out.size)
      clear hO5 hl5 hs5 hb5
      go_wp2_with fail
      go_ret
      refine ⟨_, F5, A5, rfl, HO5.out.lower HB4.out.size, ?_, HB5.out⟩
      rw [if_pos HFL.out]
      exact ⟨HL5.out.trans HL4.out, fun i hi => ⟨_, HAT.out i hi, HS5.out i (by rw [HL4.out]; exact hi)⟩⟩
    · have HFL : Hid (flagOk cols Wh F = false) := by unfold Hid flagOk; rw [HG.out, decide_eq_false hwc]; rfl
      have yc : (!((Wh.length : Int) == cols)) = true := by rw [Bool.not_eq_true']; simpa using hwc
      go_enter Tryz.func6, Tryz.ntmps6
      go_wp2_with (go_at_call 21; refine HC.out.mono ?_; rintro e w' ⟨rfl, hb⟩; have HB := hidG hb; clear hb)
      go_ret
      exact ⟨_, [], [], rfl, OutR.nil _ _, by rw [HFL.out]; rfl, HB.out⟩
def SlB (w : World) (g : Nat) (e : TypeId) (n : Nat) : Prop := ∃ cur : Array Value, w.heap[g]? = some (.cells cur e (0, 0)) ∧ n ≤ cur.size
theorem SlB.lt {w : World} {g n : Nat} {e : TypeId} (h : SlB w g e n) : g < w.heap.size := by
  obtain ⟨cur, h, _⟩ := h
  exact (Array.getElem?_eq_some_iff.1 h).1
theorem SlB.cell {w : World} {g n : Nat} {e : TypeId} (h : SlB w g e n) {i : Nat} (hi : i < n) : ∃ x, w.cell? ⟨g, i, none⟩ = some x := by
  obtain ⟨cur, h, hn⟩ := h
  exact ⟨cur[i]'(by omega), by unfold World.cell?; simp only [h]; simp⟩
theorem SlB.frozen {w : World} {g n : Nat} {e : TypeId} (h : SlB w g e n) (i : Nat) : w.frozen? ⟨g, i, none⟩ = false := by
  obtain ⟨cur, h, _⟩ := h
  unfold World.frozen?; simp only [h]; simp
theorem SlB.set {w : World} {g n : Nat} {e : TypeId} (h : SlB w g e n) (b i : Nat) (v : Value) : SlB (w.setCell ⟨b, i, none⟩ v) g e n := by
  obtain ⟨cur, h, hn⟩ := h
  by_cases e : g = b
  · subst e
    exact ⟨_, heap_setCell_same w g i cur _ v h, by simpa using hn⟩
  · exact ⟨cur, (Below.heap_setCell w ⟨b, i, none⟩ v g e).trans h, hn⟩
theorem SlB.keep {w w' : World} {g n : Nat} {e : TypeId} (h : SlB w g e n) (hk : w'.heap[g]? = w.heap[g]?) : SlB w' g e n := by
  obtain ⟨cur, h, hn⟩ := h
  exact ⟨cur, hk.trans h, hn⟩
theorem sl_own {w : World} {base g n c s : Nat} {e : TypeId} {xs : List Value} (h : w.ownsRow base e s (.slice (some ⟨g, 0, none⟩) n c) n xs) : SlB w g e (n * s) := by
  rcases h.2 with ⟨h0, _⟩ | ⟨g', cap, cur, hv, _, hb, h1, _, h2, _⟩
  · cases h0
  · cases hv
    exact ⟨cur, hb, by rw [h2]; exact Nat.mul_le_mul_right _ h1⟩
def RwB (w : World) (N0 N1 : Nat) (e : TypeId) (s : Nat) (v : Value) (n : Nat) : Prop :=
  ∃ p c, v = .slice p n c ∧ n ≤ c ∧ c ≤ maxLen ∧ ((n = 0 ∧ ((p = none ∧ c = 0) ∨ ∃ g, p = some ⟨g, 0, none⟩)) ∨ ∃ g, p = some ⟨g, 0, none⟩ ∧ N0 ≤ g ∧ g < N1 ∧ SlB w g e (n * s))
theorem rw_own {w : World} {base N0 N1 n s : Nat} {e : TypeId} {v : Value} {xs : List Value} (h : w.ownsRow base e s v n xs) (h0 : N0 ≤ base) (h1 : w.heap.size ≤ N1) : RwB w N0 N1 e s v n := by
  have hh := h
  rcases h.2 with ⟨rfl, rfl⟩ | ⟨g, cap, cur, rfl, hb, _, hc, hm, _⟩
  · exact ⟨none, 0, rfl, Nat.le_refl _, Nat.zero_le _, .inl ⟨rfl, .inl ⟨rfl, rfl⟩⟩⟩
  · exact ⟨_, cap, rfl, hc, hm, .inr ⟨g, rfl, Nat.le_trans h0 hb, Nat.lt_of_lt_of_le (hh.lt g rfl).2 h1, sl_own hh⟩⟩
theorem RwB.mk {w w' : World} {N0 N1 n s : Nat} {e : TypeId} {v : Value} (h : RwB w N0 N1 e s v n) (hs : ∀ g e n, SlB w g e n → SlB w' g e n) : RwB w' N0 N1 e s v n := by
  obtain ⟨p, c, rfl, hc, hm, hg⟩ := h
  refine ⟨p, c, rfl, hc, hm, ?_⟩
  rcases hg with hg | ⟨g, rfl, h0, h1, hg⟩
  · exact .inl hg
  · exact .inr ⟨g, rfl, h0, h1, hs _ _ _ hg⟩
theorem cell_heap {w w' : World} {g i : Nat} (h : w'.heap[g]? = w.heap[g]?) : w'.cell? ⟨g, i, none⟩ = w.cell? ⟨g, i, none⟩ := by unfold World.cell?; simp only [h]
theorem ba_eq {a b : ByteArray} (h : a.data.toList = b.data.toList) : a = b := by
  cases a with | mk x =>
  cases b with | mk y =>
  congr
  exact Array.toList_inj.1 h
def digsM : Nat → Nat → List UInt8 → List UInt8
  | 0, _, acc => acc
  | f + 1, k, acc => if k = 0 then acc else digsM f (k / 10) ((48 + k % 10).toUInt8 :: acc)
def mtxM (k : Nat) : ByteArray := strOf (109 :: digsM 20 k [])
theorem digsM_step {f k : Nat} {acc : List UInt8} (h : 0 < k) : digsM (f + 1) k acc = digsM f (k / 10) ((48 + k % 10).toUInt8 :: acc) := by
  show (if k = 0 then _ else _) = _
  rw [if_neg (by omega)]
theorem digsM_end {f : Nat} {acc : List UInt8} : digsM f 0 acc = acc := by cases f <;> rfl
set_option maxRecDepth 100000 in
set_option maxHeartbeats 4000000 in
theorem markText_eq (k : Nat) (w : World) (h0 : 0 < k) (hk : k ≤ 1000000000000000) :
    Calls Tryz.prog 30 #[.int .i64 (k : Nat)] w fun e w' => e = .returned (.string (mtxM k)) ∧ Below w.heap.size w w' := by
  obtain ⟨D, hD⟩ : ∃ D, digsM 20 k [] = D := ⟨_, rfl⟩
  have HD : Hid (mtxM k = strOf (109 :: D)) := by unfold Hid mtxM; rw [hD]
  have HDD := hidG hD
  rw [HD.out]
  clear hD
  go_enter Tryz.func30, Tryz.ntmps30
  go_wp2_with fail
  go_loopw [0, 3] (fun kv ov wr => ∃ (f m : Nat) (acc : List UInt8) (t : ByteArray), m ≤ 1000000000000000 ∧ m < 10 ^ f ∧ f + t.size ≤ 20 ∧ kv = .int .i64 (m : Nat) ∧ ov = .string t ∧ t = strOf acc ∧ digsM f m acc = D ∧ Below w.heap.size w wr) (fun kv _ _ => (intOf kv).toNat)
  case atStart => exact ⟨20, k, [], ⟨#[]⟩, hk, by omega, by decide, rfl, rfl, rfl, HDD.out, Below.refl _ _⟩
  case round =>
    obtain ⟨f, m, acc, t, hm, hmf, hfa, rfl, rfl, hta, hdg, hB⟩ := hrel
    have HB := hidG hB
    have HTA := hidG hta
    have hsz := hB.size
    clear hB hta
    by_cases hm0 : 0 < m
    · obtain ⟨f', rfl⟩ : ∃ f', f = f' + 1 := ⟨f - 1, by cases f with | zero => simp at hmf; omega | succ f => rfl⟩
      rw [digsM_step hm0] at hdg
      have HG := hidG hdg
      have hmf' : m / 10 < 10 ^ f' := by rw [Nat.pow_succ] at hmf; omega
      have HMF := hidG hmf'
      obtain ⟨Y, hY⟩ : ∃ Y, strOf [(48 + m % 10).toUInt8] = Y := ⟨_, rfl⟩
      have hYs : Y.size = 1 := by rw [← hY]; rfl
      have HY := hidG hY
      have hconv : (convert 91 9 (.slice (some ⟨wr.heap.size, 0, none⟩) 1 1)).run Tryz.prog (wr.alloc (.cells #[.int .u8 (48 + (m : Int) % 10)] 5)) = .ok (.string Y) (wr.alloc (.cells #[.int .u8 (48 + (m : Int) % 10)] 5)) := by
        have hx := bx_new wr [.int .u8 (48 + (m : Int) % 10)] 5
        rw [← hY]
        exact run_convert_bytes_back (P := Tryz.prog) _ 91 9 5 ⟨wr.heap.size, 0, none⟩ 1 [(48 + m % 10).toUInt8] Tryz.underlying91 Tryz.underlying5 Tryz.underlying9 (fun j hj => by
          obtain rfl : j = 0 := by simpa using hj
          refine (hx.cell 0).trans ?_
          show some (Value.int .u8 _) = some (Value.int .u8 _)
          have : (48 + m % 10).toUInt8.toNat = 48 + m % 10 := by rw [Nat.toUInt8, UInt8.toNat_ofNat']; omega
          rw [show ([(48 + m % 10).toUInt8] : List UInt8)[0] = (48 + m % 10).toUInt8 from rfl, this]
          congr 3)
      clear hdg hmf hmf' hY
      go_wp2_with fail
      go_roundw
      case rel =>
        refine ⟨f', m / 10, (48 + m % 10).toUInt8 :: acc, Y ++ t, by omega, HMF.out, ?_, by go_num, rfl, ?_, HG.out, HB.out.alloc hsz _⟩
        · rw [ByteArray.size_append]; omega
        · rw [← HY.out, HTA.out]; apply ba_eq; simp [strOf]
      case measure => simp [intOf]; omega
    · obtain rfl : m = 0 := by omega
      rw [digsM_end] at hdg
      have HG := hidG hdg
      clear hdg hmf
      go_wp2_with fail
      go_ret
      refine ⟨?_, HB.out⟩
      rw [← HG.out, HTA.out]
      congr 2
structure OnB (P : Nat → Prop) (w w' : World) : Prop where
  os : w'.os = w.os
  tape : w'.tape = w.tape
  output : w'.output = w.output
  size : w.heap.size ≤ w'.heap.size
  block : ∀ b, b < w.heap.size → ¬ P b → w'.heap[b]? = w.heap[b]?
  sl : ∀ g e n, SlB w g e n → SlB w' g e n
theorem OnB.refl (P : Nat → Prop) (w : World) : OnB P w w := ⟨rfl, rfl, rfl, Nat.le_refl _, fun _ _ _ => rfl, fun _ _ _ h => h⟩
theorem OnB.trans {P : Nat → Prop} {w1 w2 w3 : World} (h : OnB P w1 w2) (h' : OnB P w2 w3) : OnB P w1 w3 :=
  ⟨h'.os.trans h.os, h'.tape.trans h.tape, h'.output.trans h.output, Nat.le_trans h.size h'.size, fun b hb hn => (h'.block b (Nat.lt_of_lt_of_le hb h.size) hn).trans (h.block b hb hn), fun g e n hs => h'.sl g e n (h.sl g e n hs)⟩
theorem OnB.mono {P Q : Nat → Prop} {w1 w2 : World} (h : OnB P w1 w2) (hPQ : ∀ b, P b → Q b) : OnB Q w1 w2 := ⟨h.os, h.tape, h.output, h.size, fun b hb hn => h.block b hb (fun hp => hn (hPQ b hp)), h.sl⟩
theorem OnB.below {P : Nat → Prop} {w1 w2 w3 : World} (h : OnB P w1 w2) (hb : Below w2.heap.size w2 w3) : OnB P w1 w3 :=
  h.trans ⟨hb.os, hb.tape, hb.output, hb.size, fun b hl _ => hb.block b hl, fun g _ _ hs => hs.keep (hb.block g hs.lt)⟩
theorem OnB.set {P : Nat → Prop} {w1 w2 : World} (h : OnB P w1 w2) {b : Nat} (hb : P b) (i : Nat) (v : Value) : OnB P w1 (w2.setCell ⟨b, i, none⟩ v) :=
  h.trans ⟨rfl, rfl, rfl, by simp [World.setCell], fun k _ hn => Below.heap_setCell w2 ⟨b, i, none⟩ v k (fun e => hn (by rw [show k = b from e]; exact hb)), fun g _ _ hs => hs.set b i v⟩
theorem OnB.cell {P : Nat → Prop} {w1 w2 : World} (h : OnB P w1 w2) {b i : Nat} {x : Value} (hc : w1.cell? ⟨b, i, none⟩ = some x) (hn : ¬ P b) : w2.cell? ⟨b, i, none⟩ = some x := by
  have hl : b < w1.heap.size := World.block_lt_of_cell? w1 _ hc
  exact (cell_heap (h.block b hl hn)).trans hc
set_option maxRecDepth 100000 in
set_option maxHeartbeats 4000000 in
theorem markStringS_eq (N0 N1 n k : Nat) (v : Value) (w : World) (h : RwB w N0 N1 9 1 v n) (hn : n ≤ 1048576) (h0 : 0 < k) (hk : k ≤ 900000000000000) :
    Calls Tryz.prog 29 #[v, .int .i64 (k : Nat)] w fun e w' => e = .returned (.int .i64 (k + n : Nat)) ∧ OnB (fun b => v.ownBlock = some b) w w' ∧ ∀ g c, v = .slice (some ⟨g, 0, none⟩) n c → ∀ j, j < n → w'.cell? ⟨g, j, none⟩ = some (.string (mtxM (k + j))) := by
  obtain ⟨p, c, rfl, hc, hm, hg⟩ := h
  unfold maxLen at hm
  have HG := hidG hg
  clear hg
  go_enter Tryz.func29, Tryz.ntmps29
  go_wp2_with fail
  go_loopw [1, 5] (fun kv iv wr => ∃ i : Nat, i ≤ n ∧ iv = .int .i64 (i : Nat) ∧ kv = .int .i64 ((k + i : Nat) : Int) ∧ OnB (fun b => (Value.slice p n c).ownBlock = some b) w wr ∧ ∀ g, p = some ⟨g, 0, none⟩ → ∀ j, j < i → wr.cell? ⟨g, j, none⟩ = some (.string (mtxM (k + j)))) (fun _ iv _ => n - (intOf iv).toNat)
  case atStart => exact ⟨0, Nat.zero_le _, rfl, rfl, OnB.refl _ _, fun _ _ j hj => absurd hj (Nat.not_lt_zero _)⟩
  case round =>
    obtain ⟨i, hi, rfl, rfl, hM, hC⟩ := hrel
    have HM := hidG hM
    have HC := hidG hC
    clear hM hC
    by_cases hlt : i < n
    · obtain ⟨g, rfl, hsl⟩ : ∃ g, p = some ⟨g, 0, none⟩ ∧ SlB w g 9 n := by
        rcases HG.out with h | ⟨g, e, _, _, h⟩
        · omega
        · exact ⟨g, e, by simpa using h⟩
      have HSL := hidG hsl
      obtain ⟨kk, hkk⟩ : ∃ kk : Nat, k + i = kk := ⟨_, rfl⟩
      have hk1 : kk ≤ 1000000000000000 := by omega
      have hk2 : 0 < kk := by omega
      have HKK := hidG hkk
      have hgw := (HM.out.sl _ _ _ HSL.out).lt
      rw [hkk]
      clear hkk hsl
      obtain ⟨X, hX⟩ : ∃ X, mtxM kk = X := ⟨_, rfl⟩
      have HX := hidG hX
      have HMT : Hid (∀ W, Calls Tryz.prog 30 #[.int .i64 (kk : Nat)] W fun e w' => e = .returned (.string X) ∧ Below W.heap.size W w') := fun W => by rw [← hX]; exact markText_eq kk W hk2 hk1
      clear hX
      go_wp2_with (go_at_call 30; refine (HMT.out _).mono ?_; rintro e w2 ⟨rfl, hb2⟩; have HM2 := hidG (HM.out.below hb2); have HC2 : Hid (∀ j, j < i → w2.cell? ⟨g, j, none⟩ = some (.string (mtxM (k + j)))) := (fun j hj => (hb2.cell (p := ⟨g, j, none⟩) hgw).trans (HC.out g rfl j hj)); have hs2 := HM2.out.sl _ _ _ HSL.out; obtain ⟨x1, k1⟩ := hs2.cell hlt; have f1 := hs2.frozen i; have HK1 := hidG k1; clear hb2 hs2)
      go_roundw
      case rel =>
        refine ⟨i + 1, by omega, by go_num, by have := HKK.out; rw [show k + (i + 1) = kk + 1 by omega]; go_num, HM2.out.set rfl i _, fun g' e j hj => ?_⟩
        cases e
        by_cases e : j = i
        · subst e
          rw [World.cell?_setCell_same _ _ _ HK1.out, HKK.out, HX.out]
        · rw [World.cell?_setCell_other _ _ _ _ (by intro h; apply e; injection h with _ h2; exact h2.symm)]
          exact HC2.out j (by omega)
      case measure => simp [intOf]; omega
    · obtain rfl : i = n := by omega
      go_wp2_with fail
      go_ret
      refine ⟨rfl, HM.out, fun g c e j hj => ?_⟩
      cases e
      exact HC.out g rfl j hj
set_option maxRecDepth 100000 in
set_option maxHeartbeats 4000000 in
theorem heldStringS_eq (n k : Nat) (p : Option Addr) (c : Nat) (w : World) (hc : n ≤ c) (_hm : c ≤ maxLen) (hn : n ≤ 1048576) (h0 : 0 < k) (hk : k ≤ 900000000000000)
    (h : n = 0 ∨ ∃ g, p = some ⟨g, 0, none⟩ ∧ g < w.heap.size ∧ ∀ j, j < n → w.cell? ⟨g, j, none⟩ = some (.string (mtxM (k + j)))) :
    Calls Tryz.prog 31 #[.slice p n c, .int .i64 (k : Nat)] w fun e w' => e = .returned (.int .i64 (k + n : Nat)) ∧ Below w.heap.size w w' := by
  unfold maxLen at _hm
  have HG := hidG h
  clear h
  go_enter Tryz.func31, Tryz.ntmps31
  go_wp2_with fail
  go_loopw [1, 5] (fun kv iv wr => ∃ i : Nat, i ≤ n ∧ iv = .int .i64 (i : Nat) ∧ kv = .int .i64 ((k + i : Nat) : Int) ∧ Below w.heap.size w wr) (fun _ iv _ => n - (intOf iv).toNat)
  case atStart => exact ⟨0, Nat.zero_le _, rfl, rfl, Below.refl _ _⟩
  case round =>
    obtain ⟨i, hi, rfl, rfl, hB⟩ := hrel
    have HB := hidG hB
    by_cases hlt : i < n
    · obtain ⟨g, rfl, hgs, hh⟩ : ∃ g, p = some ⟨g, 0, none⟩ ∧ g < w.heap.size ∧ ∀ j, j < n → w.cell? ⟨g, j, none⟩ = some (.string (mtxM (k + j))) := by
        rcases HG.out with h | h
        · omega
        · exact h
      obtain ⟨kk, hkk⟩ : ∃ kk : Nat, k + i = kk := ⟨_, rfl⟩
      have hk1 : kk ≤ 1000000000000000 := by omega
      have hk2 : 0 < kk := by omega
      have HKK := hidG hkk
      have k1 := (hB.cell (p := ⟨g, i, none⟩) hgs).trans (hh i hlt)
      rw [hkk] at k1 ⊢
      obtain ⟨X, hX⟩ : ∃ X, mtxM kk = X := ⟨_, rfl⟩
      have HMT : Hid (∀ W, Calls Tryz.prog 30 #[.int .i64 (kk : Nat)] W fun e w' => e = .returned (.string X) ∧ Below W.heap.size W w') := fun W => by rw [← hX]; exact markText_eq kk W hk2 hk1
      rw [hX] at k1
      have hsz := HB.out.size
      have hgl : g < wr.heap.size := by omega
      clear hkk hh hX hB
      go_wp2_with fail
      go_region_held3 (fun w' => w'.cell? ⟨g, i, none⟩ = some (.string X))
        (first
          | go_keep
          | (rw [hbe.cell (p := ⟨g, i, none⟩) hgl]; assumption))
        ((go_at_call 30; refine (HMT.out _).mono ?_; rintro e w2 ⟨rfl, hbe⟩))
      all_goals
        have HB2 : Hid (Below w.heap.size w w2) := (HB.out.drew).trans (hbe.mono hsz)
        clear hbe
        go_wp2_with fail
        go_roundw
        case rel => exact ⟨i + 1, by omega, by go_num, by have := HKK.out; rw [show k + (i + 1) = kk + 1 by omega]; go_num, HB2.out⟩
        case measure => simp [intOf]; omega
    · obtain rfl : i = n := by omega
      clear hB
      go_wp2_with fail
      go_ret
      exact ⟨rfl, HB.out⟩
theorem off_ne {g a b : Nat} (h : a ≠ b) : (⟨g, a, none⟩ : Addr) ≠ ⟨g, b, none⟩ := by intro e; injection e with _ e2; exact h e2
def kfR (F : List Lr) (k i : Nat) : Nat := k + ((F.take i).map (fun f => f.cs.length + 2)).sum
theorem kfR_zero (F : List Lr) (k : Nat) : kfR F k 0 = k := by simp [kfR]
theorem kfR_succ {F : List Lr} {k i : Nat} (h : i < F.length) : kfR F k (i + 1) = kfR F k i + F[i].cs.length + 2 := by
  unfold kfR
  rw [List.take_add_one, List.getElem?_eq_getElem h, Option.toList_some, List.map_append, List.sum_append]
  simp only [List.map_cons, List.map_nil, List.sum_cons, List.sum_nil]
  omega
theorem kfR_le {F : List Lr} {k : Nat} (ha : ∀ f ∈ F, f.cs.length ≤ 1048576) : ∀ i, i ≤ F.length → kfR F k i ≤ k + i * 1048578
  | 0, _ => by rw [kfR_zero]; omega
  | i + 1, h => by
    have := kfR_le (k := k) ha i (by omega)
    have := ha _ (List.getElem_mem (show i < F.length by omega))
    rw [kfR_succ (by omega)]
    omega
def RowM (w : World) (v : Value) (n k : Nat) : Prop := ∀ g c, v = .slice (some ⟨g, 0, none⟩) n c → ∀ j, j < n → w.cell? ⟨g, j, none⟩ = some (.string (mtxM (k + j)))
theorem RowM.on {P : Nat → Prop} {w w' : World} {v : Value} {n k : Nat} (h : RowM w v n k) (ho : OnB P w w') (hn : ∀ b, v.ownBlock = some b → ¬ P b) : RowM w' v n k := fun g c e j hj => ho.cell (h g c e j hj) (hn g (by rw [e]; rfl))
theorem sl_ne {w : World} {g g' n n' : Nat} {e e' : TypeId} (h : SlB w g e n) (h' : SlB w g' e' n') (hne : e ≠ e') : g ≠ g' := by
  rintro rfl
  obtain ⟨c, h1, _⟩ := h
  obtain ⟨c', h2, _⟩ := h'
  rw [h1] at h2
  cases h2
  exact hne rfl
def PF (v : Value) (A : List Value) (b : Nat) : Prop := v.ownBlock = some b ∨ ∃ a ∈ A, a.ownBlock = some b
structure RowsX (w : World) (N0 N1 : Nat) (v : Value) (F : List Lr) (A : List Value) : Prop where
  row : RwB w N0 N1 50 3 v F.length
  len : A.length = F.length
  at' : ∀ g c, v = .slice (some ⟨g, 0, none⟩) F.length c → ∀ i (h : i < A.length), w.cell? ⟨g, i * 3, none⟩ = some A[i]
  rows : ∀ i (h : i < A.length) (h' : i < F.length), RwB w N0 N1 9 1 A[i] F[i].cs.length ∧ ∀ b, A[i].ownBlock = some b → ∃ n, SlB w b 9 n
  apart : ∀ i j (hi : i < A.length) (hj : j < A.length), i < j → ∀ b, A[i].ownBlock = some b → A[j].ownBlock ≠ some b
theorem OutR.x {base N0 N1 : Nat} {W : World} {v : Value} {F : List Lr} {A : List Value} (h : OutR base W v F A) (h0 : N0 ≤ base) (h1 : W.heap.size ≤ N1) : RowsX W N0 N1 v F A := by
  refine ⟨rw_own h.own h0 h1, h.len, fun g c e i hi => ?_, fun i hi hi' => ⟨rw_own (h.rows i hi hi') h0 h1, fun b hb => ?_⟩, h.apart⟩
  · have ho := h.own
    rw [e] at ho
    exact own_read ho (cellsR_at F A i (by rw [← h.len]; exact hi) hi).1
  · obtain ⟨cur, hc⟩ := own_block (h.rows i hi hi') hb
    exact ⟨0, cur, hc, Nat.zero_le _⟩
def mkB3 (k : Nat) : Bool := decide (k % 3 = 0)
def HeldR (w : World) (v : Value) (F : List Lr) (A : List Value) (k m : Nat) : Prop :=
  ∀ g c, v = .slice (some ⟨g, 0, none⟩) F.length c → ∀ i (h : i < F.length) (h' : i < A.length), i < m → RowM w A[i] F[i].cs.length (kfR F k i) ∧ w.cell? ⟨g, i * 3 + 1, none⟩ = some (.bool (mkB3 (kfR F k i + F[i].cs.length))) ∧ w.cell? ⟨g, i * 3 + 2, none⟩ = some (.string (mtxM (kfR F k i + F[i].cs.length + 1)))
theorem HeldR.next {w w' : World} {v : Value} {F : List Lr} {A : List Value} {k i g c : Nat} (hv : v = .slice (some ⟨g, 0, none⟩) F.length c) (h : HeldR w v F A k i)
    (hc : ∀ q x, q ≠ i * 3 + 1 → q ≠ i * 3 + 2 → w.cell? ⟨g, q, none⟩ = some x → w'.cell? ⟨g, q, none⟩ = some x)
    (hr : ∀ j (hj : j < A.length) (hj' : j < F.length), j < i → RowM w A[j] F[j].cs.length (kfR F k j) → RowM w' A[j] F[j].cs.length (kfR F k j))
    (hn : ∀ (hi : i < F.length) (hi' : i < A.length), RowM w' A[i] F[i].cs.length (kfR F k i) ∧ w'.cell? ⟨g, i * 3 + 1, none⟩ = some (.bool (mkB3 (kfR F k i + F[i].cs.length))) ∧ w'.cell? ⟨g, i * 3 + 2, none⟩ = some (.string (mtxM (kfR F k i + F[i].cs.length + 1)))) : HeldR w' v F A k (i + 1) := by
  intro g' c' e j hj hj' hji
  rw [hv] at e
  cases e
  by_cases e : j = i
  · subst e
    exact hn hj hj'
  · obtain ⟨h0, h1, h2⟩ := h g c hv j hj hj' (by omega)
    exact ⟨hr j hj' hj (by omega) h0, hc _ _ (by omega) (by omega) h1, hc _ _ (by omega) (by omega) h2⟩
theorem mod3 (k : Nat) : (((k : Int) % 3) == 0) = mkB3 k := by
  unfold mkB3
  by_cases h : k % 3 = 0
  · rw [decide_eq_true h]; simp; omega
  · rw [decide_eq_false h]; simp; omega
set_option maxRecDepth 100000 in
set_option maxHeartbeats 4000000 in
theorem markLinRowS_eq (N0 N1 k : Nat) (v : Value) (F : List Lr) (A : List Value) (w : World) (h : RowsX w N0 N1 v F A) (hn : F.length ≤ 1048576) (ha : ∀ f ∈ F, f.cs.length ≤ 1048576) (h0 : 0 < k) (hk : k ≤ 100000000) :
    Calls Tryz.prog 13 #[v, .int .i64 (k : Nat)] w fun e w' => e = .returned (.int .i64 (kfR F k F.length : Nat)) ∧ OnB (PF v A) w w' ∧ HeldR w' v F A k F.length ∧ ∀ g c, v = .slice (some ⟨g, 0, none⟩) F.length c → ∀ i (h : i < A.length), w'.cell? ⟨g, i * 3, none⟩ = some A[i] := by
  have HX := hidG h
  obtain ⟨⟨p, c, rfl, hc, hm, hg⟩, hlen, -, -, -⟩ := h
  unfold maxLen at hm
  have HG := hidG hg
  have HAR := hidG ha
  clear hg ha
  go_enter Tryz.func13, Tryz.ntmps13
  go_wp2_with fail
  go_loopw [1, 5] (fun kv iv wr => ∃ i : Nat, i ≤ F.length ∧ iv = .int .i64 (i : Nat) ∧ kv = .int .i64 (kfR F k i : Nat) ∧ OnB (PF (.slice p F.length c) A) w wr ∧ HeldR wr (.slice p F.length c) F A k i ∧ ∀ g, p = some ⟨g, 0, none⟩ → ∀ j (h : j < A.length), wr.cell? ⟨g, j * 3, none⟩ = some A[j]) (fun _ iv _ => F.length - (intOf iv).toNat)
  case atStart => exact ⟨0, Nat.zero_le _, rfl, by rw [kfR_zero], OnB.refl _ _, fun _ _ _ _ _ _ h => absurd h (Nat.not_lt_zero _), fun g e j hj => HX.out.at' g c (by rw [e]) j hj⟩
  case round =>
    obtain ⟨i, hi, rfl, rfl, hM, hH, hC⟩ := hrel
    have HM := hidG hM
    have HH := hidG hH
    have HC := hidG hC
    clear hM hH hC
    have hkb := kfR_le (k := k) HAR.out i hi
    by_cases hlt : i < F.length
    · obtain ⟨g, rfl, hsl⟩ : ∃ g, p = some ⟨g, 0, none⟩ ∧ SlB w g 50 (F.length * 3) := by
        rcases HG.out with h | ⟨g, e, _, _, h⟩
        · omega
        · exact ⟨g, e, h⟩
      have HSL := hidG hsl
      have hiA : i < A.length := by omega
      have hva := HC.out g rfl i hiA
      have hra := (HX.out.rows i hiA hlt).1
      have har := HAR.out _ (List.getElem_mem hlt)
      have HKS := hidG (kfR_succ (k := k) hlt)
      obtain ⟨m, hm'⟩ : ∃ m, F[i].cs.length = m := ⟨_, rfl⟩
      obtain ⟨a, haE⟩ : ∃ a, A[i] = a := ⟨_, rfl⟩
      have HME := hidG hm'
      have HAE := hidG haE
      rw [hm'] at hra har HKS
      rw [haE] at hva hra
      have HAM : Hid (a ∈ A) := by unfold Hid; rw [← haE]; exact List.getElem_mem hiA
      have HRA := hidG hra
      have HGA : Hid (∀ b, a.ownBlock = some b → b ≠ g) := fun b hb => by
        obtain ⟨n, hs⟩ := (HX.out.rows i hiA hlt).2 b (by rw [haE]; exact hb)
        exact sl_ne hs hsl (by decide)
      obtain ⟨k', hk'⟩ : ∃ k', kfR F k i = k' := ⟨_, rfl⟩
      have HKE := hidG hk'
      rw [hk'] at hkb HKS ⊢
      have hk0 : 0 < k' := by rw [← hk']; unfold kfR; omega
      obtain ⟨pa, ca, rfl, -, -, -⟩ := hra
      obtain ⟨k2, hk2⟩ : ∃ k2, k' + m = k2 := ⟨_, rfl⟩
      have HMS : Hid (∀ W, RwB W N0 N1 9 1 (.slice pa m ca) m → Calls Tryz.prog 29 #[.slice pa m ca, .int .i64 (k' : Nat)] W fun e w' => e = .returned (.int .i64 (k2 : Nat)) ∧ OnB (fun b => (Value.slice pa m ca).ownBlock = some b) W w' ∧ RowM w' (.slice pa m ca) m k') := fun W hW => by
        rw [← hk2]; exact markStringS_eq N0 N1 m k' _ W hW har (by omega) (by omega)
      have HKK := hidG hk2
      have hk3 : 0 < k2 := by omega
      have hk4 : k2 ≤ 900000000000000 := by omega
      obtain ⟨X2, hX2⟩ : ∃ X, mtxM (k2 + 1) = X := ⟨_, rfl⟩
      have HX2 := hidG hX2
      have HT2 : Hid (∀ W, Calls Tryz.prog 30 #[.int .i64 ((k2 : Int) + 1)] W fun e w' => e = .returned (.string X2) ∧ Below W.heap.size W w') := fun W => by rw [← hX2]; exact markText_eq (k2 + 1) W (by omega) (by omega)
      have hga := (HM.out.sl _ _ _ HSL.out).lt
      have y3 := mod3 k2
      obtain ⟨Bk, hBk⟩ : ∃ B, mkB3 k2 = B := ⟨_, rfl⟩
      have HBK := hidG hBk
      rw [hBk] at y3
      clear hk2 hsl hX2 hk' haE hm' hBk
      go_wp2_with fail
      refine (HMS.out _ (HRA.out.mk HM.out.sl)).mono ?_
      rintro e w4 ⟨rfl, hM4, hr4⟩
      have HO4 := hidG hM4
      have HR4 := hidG hr4
      have HM4 : Hid (OnB (PF (.slice (some ⟨g, 0, none⟩) F.length c) A) w w4) := HM.out.trans (hM4.mono (fun b hb => .inr ⟨_, HAM.out, hb⟩))
      have HN4 : Hid (∀ q x, wr.cell? ⟨g, q, none⟩ = some x → w4.cell? ⟨g, q, none⟩ = some x) := fun q x hx => hM4.cell hx (fun hb => HGA.out g hb rfl)
      have hs4 := HM4.out.sl _ _ _ HSL.out
      have hga4 := hs4.lt
      obtain ⟨x4, k4⟩ := hs4.cell (i := i * 3 + 1) (by omega)
      have f4 := hs4.frozen (i * 3 + 1)
      have HK4 := hidG k4
      clear hM4 hr4 HMS hs4 hva
      go_wp2_with fail
      refine (HT2.out _).mono ?_
      rintro e w5 ⟨rfl, hb5⟩
      have HM3 := hidG (HM4.out.set (.inl rfl) (i * 3 + 1) (.bool Bk))
      have HM5 := hidG (HM3.out.below hb5)
      have hs5 := HM5.out.sl _ _ _ HSL.out
      obtain ⟨x5, k5⟩ := hs5.cell (i := i * 3 + 2) (by omega)
      have f5 := hs5.frozen (i * 3 + 2)
      have HK5 := hidG k5
      have HB5 := hidG hb5
      clear hb5 hs5 k4 f4
      go_wp2_with fail
      go_roundw
      case rel =>
        have h42 : ∀ q x, q ≠ i * 3 + 1 → q ≠ i * 3 + 2 → w4.cell? ⟨g, q, none⟩ = some x → (w5.setCell ⟨g, i * 3 + 2, none⟩ (.string X2)).cell? ⟨g, q, none⟩ = some x := fun q x h1 h2 hx => (World.cell?_setCell_other _ _ _ _ (off_ne (Ne.symm h2))).trans ((HB5.out.cell (p := ⟨g, q, none⟩) (by simpa using hga4)).trans ((World.cell?_setCell_other _ _ _ _ (off_ne (Ne.symm h1))).trans hx))
        have hO4 : OnB (fun b => b = g) w4 (w5.setCell ⟨g, i * 3 + 2, none⟩ (.string X2)) := ((((OnB.refl (fun b => b = g) w4).set rfl (i * 3 + 1) (.bool Bk)).below HB5.out).set rfl (i * 3 + 2) (.string X2))
        have hO : OnB (fun b => b = g ∨ (Value.slice pa m ca).ownBlock = some b) wr (w5.setCell ⟨g, i * 3 + 2, none⟩ (.string X2)) := (HO4.out.mono (fun b hb => .inr hb)).trans (hO4.mono (fun b hb => .inl hb))
        refine ⟨i + 1, by omega, by go_num, ?_, HM5.out.set (.inl rfl) (i * 3 + 2) _, HeldR.next rfl HH.out ?_ ?_ ?_, fun g' e j hj => ?_⟩
        · have := HKK.out
          rw [HKS.out, show k' + m + 2 = k2 + 2 by omega]; go_num
        · intro q x h1 h2 hx
          exact h42 q x h1 h2 (HN4.out q x hx)
        · intro j hj hj' hji hR
          refine hR.on hO fun b hb => ?_
          rintro (rfl | hb2)
          · obtain ⟨n, hs⟩ := (HX.out.rows j hj hj').2 b hb
            exact sl_ne hs HSL.out (by decide) rfl
          · exact HX.out.apart j i hj hiA hji b hb (by rw [HAE.out]; exact hb2)
        · intro _ _
          rw [HKE.out, HAE.out, HME.out, HKK.out, HX2.out, HBK.out]
          refine ⟨HR4.out.on hO4 (fun b hb e => HGA.out b hb e), ?_, World.cell?_setCell_same _ _ _ HK5.out⟩
          exact (World.cell?_setCell_other _ _ _ _ (off_ne (by omega))).trans ((HB5.out.cell (p := ⟨g, i * 3 + 1, none⟩) (by simpa using hga4)).trans (World.cell?_setCell_same _ _ _ HK4.out))
        · cases e
          exact h42 _ _ (by omega) (by omega) (HN4.out _ _ (HC.out g rfl j hj))
      case measure => simp [intOf]; omega
    · obtain rfl : i = F.length := by omega
      go_wp2_with fail
      go_ret
      refine ⟨rfl, HM.out, HH.out, fun g c e j hj => ?_⟩
      cases e
      exact HC.out g rfl j hj
set_option maxRecDepth 100000 in
set_option maxHeartbeats 4000000 in
theorem heldLinRowS_eq (k : Nat) (p : Option Addr) (c : Nat) (F : List Lr) (A : List Value) (w : World) (_hc : F.length ≤ c) (_hm : c ≤ maxLen) (hn : F.length ≤ 1048576) (ha : ∀ f ∈ F, f.cs.length ≤ 1048576) (h0 : 0 < k) (hk : k ≤ 100000000) (hlen : A.length = F.length)
    (hp : F.length = 0 ∨ ∃ g, p = some ⟨g, 0, none⟩) (hat : ∀ g, p = some ⟨g, 0, none⟩ → ∀ i (h : i < A.length), w.cell? ⟨g, i * 3, none⟩ = some A[i]) (hH : HeldR w (.slice p F.length c) F A k F.length)
    (hrow : ∀ i (h : i < A.length) (h' : i < F.length), ∃ pa ca, A[i] = .slice pa F[i].cs.length ca ∧ F[i].cs.length ≤ ca ∧ ca ≤ maxLen ∧ (F[i].cs.length = 0 ∨ ∃ g, pa = some ⟨g, 0, none⟩)) :
    Calls Tryz.prog 14 #[.slice p F.length c, .int .i64 (k : Nat)] w fun e w' => e = .returned (.int .i64 (kfR F k F.length : Nat)) ∧ Below w.heap.size w w' := by
  unfold maxLen at _hm
  have HP := hidG hp
  have HAT := hidG hat
  have HH := hidG hH
  have HROW := hidG hrow
  have HAR := hidG ha
  clear hp hat hH hrow ha
  go_enter Tryz.func14, Tryz.ntmps14
  go_wp2_with fail
  go_loopw [1, 5] (fun kv iv wr => ∃ i : Nat, i ≤ F.length ∧ iv = .int .i64 (i : Nat) ∧ kv = .int .i64 (kfR F k i : Nat) ∧ Below w.heap.size w wr) (fun _ iv _ => F.length - (intOf iv).toNat)
  case atStart => exact ⟨0, Nat.zero_le _, rfl, by rw [kfR_zero], Below.refl _ _⟩
  case round =>
    obtain ⟨i, hi, rfl, rfl, hB⟩ := hrel
    have HB := hidG hB
    have hkb := kfR_le (k := k) HAR.out i hi
    by_cases hlt : i < F.length
    · obtain ⟨g, rfl⟩ : ∃ g, p = some ⟨g, 0, none⟩ := by
        rcases HP.out with h | h
        · omega
        · exact h
      have hiA : i < A.length := by omega
      have hva := HAT.out g rfl i hiA
      obtain ⟨hcr, hc1, hc2⟩ := HH.out g c rfl i hlt hiA hlt
      obtain ⟨pa, ca, hA, hca, hcm, hpa⟩ := HROW.out i hiA hlt
      have har := HAR.out _ (List.getElem_mem hlt)
      have HKS := hidG (kfR_succ (k := k) hlt)
      rw [hA] at hva hcr
      obtain ⟨m, hm'⟩ : ∃ m, F[i].cs.length = m := ⟨_, rfl⟩
      rw [hm'] at hva hcr hc1 hc2 hca hpa har HKS
      obtain ⟨k', hk'⟩ : ∃ k', kfR F k i = k' := ⟨_, rfl⟩
      rw [hk'] at hkb HKS hcr hc1 hc2 ⊢
      have hk0 : 0 < k' := by rw [← hk']; unfold kfR; omega
      obtain ⟨k2, hk2⟩ : ∃ k2, k' + m = k2 := ⟨_, rfl⟩
      have HKK := hidG hk2
      have hk3 : 0 < k2 := by omega
      have hk4 : k2 ≤ 900000000000000 := by omega
      rw [hk2] at hc1 hc2
      have hgs := World.block_lt_of_cell? w _ hc1
      have HHS : Hid (∀ W, Below w.heap.size w W → Calls Tryz.prog 31 #[.slice pa m ca, .int .i64 (k' : Nat)] W fun e w' => e = .returned (.int .i64 (k2 : Nat)) ∧ Below W.heap.size W w') := fun W hW => by
        rw [← hk2]
        refine heldStringS_eq m k' pa ca W hca hcm har (by omega) (by omega) ?_
        by_cases hm0 : m = 0
        · exact .inl hm0
        · rcases hpa with h | ⟨ga, rfl⟩
          · exact absurd h hm0
          · have hl := World.block_lt_of_cell? w _ (hcr ga ca rfl 0 (by omega))
            exact .inr ⟨ga, rfl, Nat.lt_of_lt_of_le hl hW.size, fun j hj => (hW.cell (p := ⟨ga, j, none⟩) hl).trans (hcr ga ca rfl j hj)⟩
      obtain ⟨X2, hX2⟩ : ∃ X, mtxM (k2 + 1) = X := ⟨_, rfl⟩
      have HT2 : Hid (∀ W, Calls Tryz.prog 30 #[.int .i64 ((k2 : Int) + 1)] W fun e w' => e = .returned (.string X2) ∧ Below W.heap.size W w') := fun W => by rw [← hX2]; exact markText_eq (k2 + 1) W (by omega) (by omega)
      rw [hX2] at hc2
      have y3 := mod3 k2
      obtain ⟨Bk, hBk⟩ : ∃ B, mkB3 k2 = B := ⟨_, rfl⟩
      rw [hBk] at y3 hc1
      have HC1 := hidG hc1
      have HC2 := hidG hc2
      have k1 := (hB.cell (p := ⟨g, i * 3, none⟩) hgs).trans hva
      have hsz := HB.out.size
      clear hk2 hX2 hk' hA hcr hm' hva hc1 hc2 hB hpa hBk
      go_wp2_with fail
      refine (HHS.out _ HB.out).mono ?_
      rintro e w3 ⟨rfl, hb3⟩
      have HB3 : Hid (Below w.heap.size w w3) := HB.out.trans (hb3.mono HB.out.size)
      have k1c := (HB3.out.cell (p := ⟨g, i * 3 + 1, none⟩) hgs).trans HC1.out
      have k2c := (HB3.out.cell (p := ⟨g, i * 3 + 2, none⟩) hgs).trans HC2.out
      have hsz3 := HB3.out.size
      have hgl3 : g < w3.heap.size := Nat.lt_of_lt_of_le hgs hsz3
      have yk : decide ((k2 : Int) < 0) = false := decide_eq_false (by omega)
      clear hb3 k1
      cases Bk
      all_goals
        go_wp2_with fail
        go_region_held3 (fun w' => w'.cell? ⟨g, i * 3 + 2, none⟩ = some (.string X2))
          (first
            | go_keep
            | (rw [hbf.cell (p := ⟨g, i * 3 + 2, none⟩) hgl3]; assumption))
          ((go_at_call 30; refine (HT2.out _).mono ?_; rintro e w4 ⟨rfl, hbf⟩))
        have HB4 : Hid (Below w.heap.size w w4) := (HB3.out.drew).trans (hbf.mono hsz3)
        clear hbf k2c
        go_wp2_with fail
        go_roundw
        case rel =>
          have := HKK.out
          exact ⟨i + 1, by omega, by go_num, by rw [HKS.out, show k' + m + 2 = k2 + 2 by omega]; go_num, HB4.out⟩
        case measure => simp [intOf]; omega
    · obtain rfl : i = F.length := by omega
      clear hB
      go_wp2_with fail
      go_ret
      exact ⟨rfl, HB.out⟩
def ArgBools (w : World) (v : Value) (L : List Bool) : Prop :=
  ∃ a c, v = .slice a L.length c ∧ L.length ≤ c ∧ c ≤ maxLen ∧ (L = [] ∨ ∃ b off, a = some ⟨b, off, none⟩ ∧ b < w.heap.size ∧ ∀ i (h : i < L.length), w.cell? ⟨b, off + i, none⟩ = some (.bool L[i]))
theorem ArgBools.below {w w' : World} {v : Value} {L : List Bool} (h : ArgBools w v L) (hb : Below w.heap.size w w') : ArgBools w' v L := by
  obtain ⟨a, c, rfl, h1, h2, h4⟩ := h
  refine ⟨a, c, rfl, h1, h2, ?_⟩
  rcases h4 with h | ⟨b, off, rfl, hlt, hA⟩
  · exact .inl h
  · exact .inr ⟨b, off, rfl, Nat.lt_of_lt_of_le hlt hb.size, fun i hi => (hb.cell (p := ⟨b, off + i, none⟩) hlt).trans (hA i hi)⟩
def boolsC (L : List Bool) : List Value := L.map (fun x => .bool x)
theorem info_bool0 : (Tryz.prog.info? 4).map (fun i => (i.zero, i.size, i.bytes)) = some (some (.bool false), 1, 1) := by kernel_rfl
theorem info_bool : ∃ i : TypeInfo, Tryz.prog.info? 4 = some i ∧ i.zero = some (.bool false) ∧ i.size = 1 ∧ i.bytes = 1 := info_parts info_bool0
theorem bools_at {w : World} {base : Nat} {v : Value} {L : List Bool} (h : w.ownsRow base 4 1 v L.length (boolsC L)) : BoolsAt w v L := by
  obtain ⟨p, c, rfl, h1, h2, h3⟩ := own_row h
  refine ⟨p, c, rfl, h1, h2, ?_⟩
  rcases h3 with h3 | ⟨g, rfl, hg⟩
  · exact .inl (List.eq_nil_of_length_eq_zero h3)
  · exact .inr ⟨g, rfl, hg, fun i hi => own_read h (by unfold boolsC; rw [List.getElem?_map, List.getElem?_eq_getElem hi]; rfl)⟩
set_option maxRecDepth 100000 in
set_option maxHeartbeats 4000000 in
theorem toBoolS_any (v : Value) (L : List Bool) (w : World) (h : ArgBools w v L) (hnl : L.length ≤ 1048576) :
    Calls Tryz.prog 7 #[v] w fun e w' => ∃ g c, e = .returned (.slice (some ⟨g, 0, none⟩) L.length c) ∧ w'.ownsRow w.heap.size 4 1 (.slice (some ⟨g, 0, none⟩) L.length c) L.length (boolsC L) ∧ Below w.heap.size w w' := by
  obtain ⟨a, c, rfl, hc, hc2, hA⟩ := h
  unfold maxLen at hc2
  obtain ⟨i0, hinf, hz0, hz1, hz2⟩ := info_bool
  have HA := hidG hA
  clear hA
  go_enter Tryz.func7, Tryz.ntmps7
  go_wp2_with (at_make; refine wpList_make_full _ rfl _ _ 22 rfl w.heap.size 4 i0 (.bool false) 1 Tryz.underlying22 hinf hz0 hz1 .i64 .i64 _ _ L.length rfl rfl (by simp) (by simp) (by rw [hz2]; omega) (by unfold maxLen; omega) (Nat.le_refl _) ?_)
  intro w1 hown1 hgr
  have HB1 : Hid (Below w.heap.size w w1) := (Below.refl _ _).grown hgr (Nat.le_refl _) (fun k e => by cases e)
  have HO1 := hidG hown1
  clear hown1 hgr
  go_wp2_with fail
  go_loopw [4] (fun iv wr => ∃ (i : Nat) (xs : List Value), i ≤ L.length ∧ iv = .int .i64 i ∧ (∀ j (hj : j < L.length), j < i → xs[j]? = some (.bool L[j])) ∧ wr.ownsRow w.heap.size 4 1 (.slice (some ⟨w.heap.size, 0, none⟩) L.length L.length) L.length xs ∧ Below w.heap.size w wr) (fun iv _ => L.length - (intOf iv).toNat)
  case atStart => exact ⟨0, _, Nat.zero_le _, rfl, fun j _ h => absurd h (Nat.not_lt_zero _), HO1.out, HB1.out⟩
  case round =>
    obtain ⟨i, xs, hi, rfl, hlaid, hown, hB⟩ := hrel
    have HB := hidG hB
    have HLD := hidG hlaid
    have HXL : Hid (xs.length = L.length) := by have := hown.1; unfold Hid; omega
    by_cases hlt : i < L.length
    · obtain ⟨b, off, rfl, hb, hA⟩ : ∃ b off, a = some ⟨b, off, none⟩ ∧ b < w.heap.size ∧ ∀ i (h : i < L.length), w.cell? ⟨b, off + i, none⟩ = some (.bool L[i]) := by
        rcases HA.out with h | h
        · rw [h] at hlt; exact absurd hlt (Nat.not_lt_zero _)
        · exact h
      have k0 := hA i hlt
      rw [← hB.cell (p := ⟨b, off + i, none⟩) hb] at k0
      have HNX := hidG (laid1_next (f := fun x => .bool x) HXL.out hlaid hlt)
      obtain ⟨x0, e0⟩ := row_at hown i (by omega)
      have g0 := hown.frozenAt i
      have hw4 := (hown.stored i (.bool L[i])).1
      have HW4 := hidG hw4
      clear hlaid hown hB hA hw4
      go_wp2_with fail
      go_roundw
      case rel => exact ⟨i + 1, _, by omega, by go_num, HNX.out, HW4.out, HB.out.setCell (p := ⟨w.heap.size, i, none⟩) (Nat.le_refl _) _⟩
      case measure => simp [intOf]; omega
    · have hie : i = L.length := by omega
      subst hie
      have HO := hidG hown
      clear hown hB hlaid
      go_wp2_with fail
      go_ret
      have e := laid1_all (f := fun x => .bool x) HXL.out HLD.out
      have ho := HO.out
      rw [e] at ho
      exact ⟨_, _, rfl, ho, HB.out⟩
set_option maxRecDepth 100000 in
set_option maxHeartbeats 4000000 in
theorem eqBoolS_same (v1 v2 : Value) (L : List Bool) (w : World) (h1 : BoolsAt w v1 L) (h2 : BoolsAt w v2 L) :
    Calls Tryz.prog 11 #[v1, v2] w fun e w' => e = .returned (.bool true) ∧ Below w.heap.size w w' := by
  obtain ⟨p1, c1, rfl, l1, m1, r1⟩ := h1
  obtain ⟨p2, c2, rfl, l2, m2, r2⟩ := h2
  unfold maxLen at m1 m2
  have H1 := hidG r1
  have H2 := hidG r2
  clear r1 r2
  go_enter Tryz.func11, Tryz.ntmps11
  go_wp2_with fail
  go_loopw [5] (fun iv wr => ∃ i : Nat, i ≤ L.length ∧ iv = .int .i64 (i : Nat) ∧ Below w.heap.size w wr) (fun iv _ => L.length - (intOf iv).toNat)
  case atStart => exact ⟨0, Nat.zero_le _, rfl, Below.refl _ _⟩
  case round =>
    obtain ⟨i, hi, rfl, hB⟩ := hrel
    have HB := hidG hB
    by_cases hlt : i < L.length
    · obtain ⟨b1, rfl, hb1, hc1⟩ : ∃ b, p1 = some ⟨b, 0, none⟩ ∧ b < w.heap.size ∧ ∀ i (h : i < L.length), w.cell? ⟨b, i, none⟩ = some (.bool L[i]) := by
        rcases H1.out with h | h
        · rw [h] at hlt; exact absurd hlt (Nat.not_lt_zero _)
        · exact h
      obtain ⟨b2, rfl, hb2, hc2⟩ : ∃ b, p2 = some ⟨b, 0, none⟩ ∧ b < w.heap.size ∧ ∀ i (h : i < L.length), w.cell? ⟨b, i, none⟩ = some (.bool L[i]) := by
        rcases H2.out with h | h
        · rw [h] at hlt; exact absurd hlt (Nat.not_lt_zero _)
        · exact h
      have k0 := hc1 i hlt
      have m0 := hc2 i hlt
      rw [← hB.cell (p := ⟨b1, i, none⟩) hb1] at k0
      rw [← hB.cell (p := ⟨b2, i, none⟩) hb2] at m0
      generalize L[i] = s at k0 m0
      clear hB hc1 hc2
      go_wp2_with fail
      go_region
      all_goals
        have HB2 := hidG HB.out.drew
        go_wp2_with fail
        go_roundw
        case rel => exact ⟨i + 1, by omega, by go_num, HB2.out⟩
        case measure => simp [intOf]; omega
    · clear hB
      go_wp2_with fail
      go_ret
      exact ⟨rfl, HB.out⟩
set_option maxRecDepth 100000 in
set_option maxHeartbeats 4000000 in
theorem markBoolS_any (N0 N1 n k : Nat) (v : Value) (w : World) (h : RwB w N0 N1 4 1 v n) (hn : n ≤ 1048576) (hk : k ≤ 900000000000000) :
    Calls Tryz.prog 12 #[v, .int .i64 (k : Nat)] w fun e w' => e = .returned (.int .i64 (k + n : Nat)) ∧ OnB (fun b => v.ownBlock = some b) w w' := by
  obtain ⟨p, c, rfl, hc, hm, hg⟩ := h
  unfold maxLen at hm
  have HG := hidG hg
  clear hg
  go_enter Tryz.func12, Tryz.ntmps12
  go_wp2_with fail
  go_loopw [1, 5] (fun kv iv wr => ∃ i : Nat, i ≤ n ∧ iv = .int .i64 (i : Nat) ∧ kv = .int .i64 ((k + i : Nat) : Int) ∧ OnB (fun b => (Value.slice p n c).ownBlock = some b) w wr) (fun _ iv _ => n - (intOf iv).toNat)
  case atStart => exact ⟨0, Nat.zero_le _, rfl, rfl, OnB.refl _ _⟩
  case round =>
    obtain ⟨i, hi, rfl, rfl, hM⟩ := hrel
    have HM := hidG hM
    clear hM
    by_cases hlt : i < n
    · obtain ⟨g, rfl, hsl⟩ : ∃ g, p = some ⟨g, 0, none⟩ ∧ SlB w g 4 n := by
        rcases HG.out with h | ⟨g, e, _, _, h⟩
        · omega
        · exact ⟨g, e, by simpa using h⟩
      obtain ⟨kk, hkk⟩ : ∃ kk : Nat, k + i = kk := ⟨_, rfl⟩
      have hk1 : kk ≤ 1000000000000000 := by omega
      have HKK := hidG hkk
      have hs2 := HM.out.sl _ _ _ hsl
      obtain ⟨x1, k1⟩ := hs2.cell hlt
      have f1 := hs2.frozen i
      rw [hkk]
      have y3 := mod3 kk
      clear hkk hsl hs2
      go_wp2_with fail
      go_roundw
      case rel => exact ⟨i + 1, by omega, by go_num, by have := HKK.out; rw [show k + (i + 1) = kk + 1 by omega]; go_num, HM.out.set rfl i _⟩
      case measure => simp [intOf]; omega
    · obtain rfl : i = n := by omega
      go_wp2_with fail
      go_ret
      exact ⟨rfl, HM.out⟩
structure LaidA (wr : World) (N : Nat) (xs : List Value) (F : List Lr) (A : List Value) (i : Nat) : Prop where
  len : A.length = i
  at' : ∀ j (_ : j < F.length) (_ : j < A.length), xs[j * 3]? = some A[j] ∧ xs[j * 3 + 1]? = some (.bool F[j].st) ∧ xs[j * 3 + 2]? = some (.string (strOf F[j].bd))
  own : ∀ j (_ : j < F.length) (_ : j < A.length), wr.ownsRow N 9 1 A[j] F[j].cs.length (strsC F[j].cs)
  apart : ∀ i j (hi : i < A.length) (hj : j < A.length), i < j → ∀ b, A[i].ownBlock = some b → A[j].ownBlock ≠ some b
theorem LaidA.next {wr wr' : World} {N : Nat} {xs : List Value} {F : List Lr} {A : List Value} {i : Nat} (hx : xs.length = F.length * 3) (h : LaidA wr N xs F A i) (hi : i < F.length) {va : Value} (hk : ∀ k, N ≤ k → k < wr.heap.size → wr'.heap[k]? = wr.heap[k]?) (hva : wr'.ownsRow N 9 1 va F[i].cs.length (strsC F[i].cs)) (hnew : ∀ b, va.ownBlock = some b → wr.heap.size ≤ b) :
    LaidA wr' N (((xs.set (i * 3) va).set (i * 3 + 1) (.bool F[i].st)).set (i * 3 + 2) (.string (strOf F[i].bd))) F (A ++ [va]) (i + 1) := by
  have hl := h.len
  subst hl
  refine ⟨by simp, fun j hj hj' => ?_, fun j hj hj' => ?_, fun a b ha hb hab c hc => ?_⟩
  · by_cases e : j < A.length
    · obtain ⟨h0, h1, h2⟩ := h.at' j hj e
      rw [List.getElem_append_left e]
      refine ⟨?_, ?_, ?_⟩ <;> rw [List.getElem?_set_ne (by omega), List.getElem?_set_ne (by omega), List.getElem?_set_ne (by omega)] <;> assumption
    · have e1 : j = A.length := by simp at hj'; omega
      subst e1
      rw [List.getElem_append_right (Nat.le_refl _)]
      simp only [Nat.sub_self, List.getElem_cons_zero]
      refine ⟨?_, ?_, ?_⟩
      · rw [List.getElem?_set_ne (by omega), List.getElem?_set_ne (by omega), List.getElem?_set_self (by omega)]
      · rw [List.getElem?_set_ne (by omega), List.getElem?_set_self (by simp; omega)]
      · rw [List.getElem?_set_self (by simp; omega)]
  · by_cases e : j < A.length
    · rw [List.getElem_append_left e]
      exact own_other' (h.own j hj e) (fun g hg => hk g ((h.own j hj e).lt g hg).1 ((h.own j hj e).lt g hg).2)
    · have e1 : j = A.length := by simp at hj'; omega
      subst e1
      rw [List.getElem_append_right (Nat.le_refl _)]
      simp only [Nat.sub_self, List.getElem_cons_zero]
      exact hva
  · have ha2 : a < A.length := by simp at hb; omega
    rw [List.getElem_append_left ha2] at hc
    by_cases e : b < A.length
    · rw [List.getElem_append_left e]
      exact h.apart a b ha2 e hab c hc
    · have e1 : b = A.length := by simp at hb; omega
      subst e1
      rw [List.getElem_append_right (Nat.le_refl _)]
      simp only [Nat.sub_self, List.getElem_cons_zero]
      intro hv
      have h1 := hnew c hv
      have h2 := ((h.own a (by omega) ha2).lt c hc).2
      omega
theorem LaidA.all {wr : World} {N : Nat} {xs : List Value} {F : List Lr} {A : List Value} (hx : xs.length = F.length * 3) (h : LaidA wr N xs F A F.length) : xs = cellsR F A := by
  have hl := cellsR_len F A h.len
  refine List.ext_getElem? fun q => ?_
  by_cases hq : q < F.length * 3
  · obtain ⟨j, hj, hc⟩ : ∃ j, j < F.length ∧ (q = j * 3 ∨ q = j * 3 + 1 ∨ q = j * 3 + 2) := ⟨q / 3, by omega, by omega⟩
    have hj' : j < A.length := by rw [h.len]; exact hj
    obtain ⟨a0, a1, a2⟩ := h.at' j hj hj'
    obtain ⟨b0, b1, b2⟩ := cellsR_at F A j hj hj'
    rcases hc with rfl | rfl | rfl
    · rw [a0, b0]
    · rw [a1, b1]
    · rw [a2, b2]
  · rw [List.getElem?_eq_none (by omega), List.getElem?_eq_none (by omega)]
set_option maxRecDepth 100000 in
set_option maxHeartbeats 4000000 in
theorem toLinRowS_own (v : Value) (F : List Lr) (w : World) (h : ArgRows w v F) (hs : F.length ≤ 1048576 ∧ ∀ f ∈ F, SmallR f) :
    Calls Tryz.prog 8 #[v] w fun e w' => ∃ v' A, e = .returned v' ∧ OutR w.heap.size w' v' F A ∧ Below w.heap.size w w' := by
  obtain ⟨a, c, rfl, hc, hc2, -, hA⟩ := h
  unfold maxLen at hc2
  obtain ⟨i0, hinf, hz0, hz1, hz2⟩ := info_row
  have hnl := hs.1
  have HA := hidG hA
  have HSM := hidG hs.2
  clear hA hs
  go_enter Tryz.func8, Tryz.ntmps8
  go_wp2_with (at_make; refine wpList_make_full _ rfl _ _ 25 rfl w.heap.size 50 i0 _ 3 Tryz.underlying25 hinf hz0 hz1 .i64 .i64 _ _ F.length rfl rfl (by simp) (by simp) (by rw [hz2]; omega) (by unfold maxLen; omega) (Nat.le_refl _) ?_)
  intro w1 hown1 hgr
  have HB1 : Hid (Below w.heap.size w w1) := (Below.refl _ _).grown hgr (Nat.le_refl _) (fun k e => by cases e)
  have HO1 := hidG hown1
  clear hown1 hgr
  go_wp2_with fail
  go_loopw [4] (fun iv wr => ∃ (i : Nat) (xs A : List Value), i ≤ F.length ∧ iv = .int .i64 i ∧ LaidA wr (w.heap.size + 1) xs F A i ∧ wr.ownsRow w.heap.size 50 3 (.slice (some ⟨w.heap.size, 0, none⟩) F.length F.length) F.length xs ∧ Below w.heap.size w wr) (fun iv _ => F.length - (intOf iv).toNat)
  case atStart => exact ⟨0, _, [], Nat.zero_le _, rfl, ⟨rfl, fun j _ h => absurd h (Nat.not_lt_zero _), fun j _ h => absurd h (Nat.not_lt_zero _), fun j _ h => absurd h (Nat.not_lt_zero _)⟩, HO1.out, HB1.out⟩
  case round =>
    obtain ⟨i, xs, A, hi, rfl, hlaid, hown, hB⟩ := hrel
    have HB := hidG hB
    have HLD := hidG hlaid
    have HXL : Hid (xs.length = F.length * 3) := hown.1
    have HO := hidG hown
    have HLT : Hid (w.heap.size < wr.heap.size) := (hown.lt _ rfl).2
    by_cases hlt : i < F.length
    · obtain ⟨b, off, rfl, hb, hA⟩ : ∃ b off, a = some ⟨b, off, none⟩ ∧ b < w.heap.size ∧ ∀ i (h : i < F.length), (∃ va, w.cell? ⟨b, off + i * 3, none⟩ = some va ∧ ArgStrs w va F[i].cs) ∧ w.cell? ⟨b, off + i * 3 + 1, none⟩ = some (.bool F[i].st) ∧ w.cell? ⟨b, off + i * 3 + 2, none⟩ = some (.string (strOf F[i].bd)) := by
        rcases HA.out with h | h
        · rw [h] at hlt; exact absurd hlt (Nat.not_lt_zero _)
        · exact h
      obtain ⟨⟨va, k0, hva⟩, k1, k2⟩ := hA i hlt
      rw [← hB.cell (p := ⟨b, off + i * 3, none⟩) hb] at k0
      rw [← hB.cell (p := ⟨b, off + i * 3 + 1, none⟩) hb] at k1
      rw [← hB.cell (p := ⟨b, off + i * 3 + 2, none⟩) hb] at k2
      have HVA := hidG (hva.below hB)
      have HSF := hidG (HSM.out _ (List.getElem_mem hlt)).1
      have HNX : Hid (∀ wr' va, (∀ k, w.heap.size + 1 ≤ k → k < wr.heap.size → wr'.heap[k]? = wr.heap[k]?) → wr'.ownsRow (w.heap.size + 1) 9 1 va F[i].cs.length (strsC F[i].cs) → (∀ b, va.ownBlock = some b → wr.heap.size ≤ b) → LaidA wr' (w.heap.size + 1) (((xs.set (i * 3) va).set (i * 3 + 1) (.bool F[i].st)).set (i * 3 + 2) (.string (strOf F[i].bd))) F (A ++ [va]) (i + 1)) := fun wr' va hk hv hn => LaidA.next HXL.out HLD.out hlt hk hv hn
      obtain ⟨f, hf⟩ : ∃ f, F[i] = f := ⟨_, rfl⟩
      rw [hf] at k1 k2 HVA HSF HNX
      obtain ⟨pa, ca, rfl, -, -, -, -⟩ := hva
      rw [hf] at k0
      rw [hf] at HVA
      clear hf hlaid hown hB hA
      go_wp2_with (go_at_call 25; refine (toLinRow_any f _ _ HVA.out HSF.out).mono ?_; rintro e w2 ⟨g2, c2, rfl, hr2, hb2⟩; have hown2 := row_below HO.out hb2; have HB2 : Hid (Below w.heap.size w w2) := HB.out.trans (hb2.mono HB.out.size); obtain ⟨x0, e0⟩ := row_at hown2 (i * 3) (by omega); obtain ⟨x1, e1⟩ := row_at hown2 (i * 3 + 1) (by omega); obtain ⟨x2, e2⟩ := row_at hown2 (i * 3 + 2) (by omega); have g0 := hown2.frozenAt (i * 3); have g1 := hown2.frozenAt (i * 3 + 1); have g2' := hown2.frozenAt (i * 3 + 2); have HO2 := hidG hown2; have HR2 := hidG hr2; have HBB := hidG hb2; clear hb2 hown2 hr2)
      have hw4 := (((HO2.out.stored (i * 3) (.slice (some ⟨g2, 0, none⟩) f.cs.length c2)).1.stored (i * 3 + 1) (.bool f.st)).1.stored (i * 3 + 2) (.string (strOf f.bd))).1
      have HW4 := hidG hw4
      have hh : ∀ k, k ≠ w.heap.size → (((w2.setCell ⟨w.heap.size, i * 3, none⟩ (.slice (some ⟨g2, 0, none⟩) f.cs.length c2)).setCell ⟨w.heap.size, i * 3 + 1, none⟩ (.bool f.st)).setCell ⟨w.heap.size, i * 3 + 2, none⟩ (.string (strOf f.bd))).heap[k]? = w2.heap[k]? := fun k hk => by rw [Below.heap_setCell _ ⟨w.heap.size, i * 3 + 2, none⟩ _ _ hk, Below.heap_setCell _ ⟨w.heap.size, i * 3 + 1, none⟩ _ _ hk, Below.heap_setCell _ ⟨w.heap.size, i * 3, none⟩ _ _ hk]
      have HHH := hidG hh
      clear hw4 hh
      go_roundw
      case rel =>
        refine ⟨i + 1, _, _, by omega, by go_num, HNX.out _ (.slice (some ⟨g2, 0, none⟩) f.cs.length c2) (fun k hk hk2 => (HHH.out k (by omega)).trans (HBB.out.block k hk2)) ?_ (fun b hb => own_base HR2.out b hb), HW4.out, ((HB2.out.setCell (p := ⟨w.heap.size, i * 3, none⟩) (Nat.le_refl _) _).setCell (p := ⟨w.heap.size, i * 3 + 1, none⟩) (Nat.le_refl _) _).setCell (p := ⟨w.heap.size, i * 3 + 2, none⟩) (Nat.le_refl _) _⟩
        exact own_lower (own_other' HR2.out (fun g hg => HHH.out g (fun e => by have := own_base HR2.out g hg; have := HLT.out; omega))) HLT.out
      case measure => simp [intOf]; omega
    · have hie : i = F.length := by omega
      subst hie
      clear hown hB hlaid
      go_wp2_with fail
      go_ret
      have hO := HO.out
      rw [HLD.out.all HXL.out] at hO
      exact ⟨_, A, rfl, ⟨HLD.out.len, hO, fun j hj hj' => own_lower (HLD.out.own j hj' hj) (Nat.le_succ _), HLD.out.apart⟩, HB.out⟩
theorem OnB.toBelow {P : Nat → Prop} {w w1 w2 : World} (h : OnB P w1 w2) (hb : Below w.heap.size w w1) (hP : ∀ b, P b → w.heap.size ≤ b) : Below w.heap.size w w2 :=
  ⟨h.os.trans hb.os, h.tape.trans hb.tape, h.output.trans hb.output, Nat.le_trans hb.size h.size, fun b hlt => (h.block b (Nat.lt_of_lt_of_le hlt hb.size) (fun hp => by have := hP b hp; omega)).trans (hb.block b hlt)⟩
theorem HeldR.below {w w' : World} {v : Value} {F : List Lr} {A : List Value} {k m : Nat} (h : HeldR w v F A k m) (hb : Below w.heap.size w w') : HeldR w' v F A k m := by
  intro g c e i hi hi' hm
  obtain ⟨h0, h1, h2⟩ := h g c e i hi hi' hm
  refine ⟨fun g' c' e' j hj => ?_, ?_, ?_⟩
  · have hc := h0 g' c' e' j hj
    exact (hb.cell (p := ⟨g', j, none⟩) (World.block_lt_of_cell? w _ hc)).trans hc
  · exact (hb.cell (p := ⟨g, i * 3 + 1, none⟩) (World.block_lt_of_cell? w _ h1)).trans h1
  · exact (hb.cell (p := ⟨g, i * 3 + 2, none⟩) (World.block_lt_of_cell? w _ h2)).trans h2
theorem OutR.plain {base : Nat} {W : World} {v : Value} {F : List Lr} {A : List Value} (h : OutR base W v F A) : ∀ b c, v = .slice (some ⟨b, 0, none⟩) F.length c → ∀ i, i < F.length → ∀ va, W.cell? ⟨b, i * 3, none⟩ = some va → Plain va := by
  intro b c e i hi va hva
  have hi' : i < A.length := by rw [h.len]; exact hi
  have ho := h.own
  rw [e] at ho
  have h1 := own_read ho (cellsR_at F A i hi hi').1
  rw [h1] at hva
  cases hva
  obtain ⟨p, c, e, hp⟩ := own_form (h.rows i hi' hi)
  exact ⟨p, _, c, e, hp⟩
theorem OutR.rowsIn {base : Nat} {W : World} {v : Value} {F : List Lr} {A : List Value} (h : OutR base W v F A) : ∀ i (_ : i < A.length) (_ : i < F.length), ∃ pa ca, A[i] = .slice pa F[i].cs.length ca ∧ F[i].cs.length ≤ ca ∧ ca ≤ maxLen ∧ (F[i].cs.length = 0 ∨ ∃ g, pa = some ⟨g, 0, none⟩) := fun i hi hi' => by
  obtain ⟨p, c, e, h1, h2, h3⟩ := own_row (h.rows i hi hi')
  refine ⟨p, c, e, h1, h2, ?_⟩
  rcases h3 with h3 | ⟨g, h3, _⟩
  · exact .inl h3
  · exact .inr ⟨g, h3⟩
theorem OutR.pf {base : Nat} {W : World} {v : Value} {F : List Lr} {A : List Value} (h : OutR base W v F A) : ∀ b, PF v A b → base ≤ b ∧ b < W.heap.size := by
  intro b hb
  rcases hb with hb | ⟨a, ha, hb⟩
  · exact h.own.lt b hb
  · obtain ⟨i, hi, rfl⟩ := List.getElem_of_mem ha
    exact (h.rows i hi (by rw [← h.len]; exact hi)).lt b hb
def Made (cols : Int) (Wh : List Bool) (F F' : List Lr) : Prop := if flagOk cols Wh F = true then F'.length = F.length ∧ ∀ i, i < F.length → TightT Wh (F.getD i ⟨[], false, []⟩) (F'.getD i ⟨[], false, []⟩) else F' = []
theorem Made.eq {cols : Int} {Wh : List Bool} {F A B : List Lr} (h : Made cols Wh F A) (h' : Made cols Wh F B) : A = B := by
  unfold Made at h h'
  by_cases hf : flagOk cols Wh F = true
  · rw [if_pos hf] at h h'
    exact getD_ext ⟨[], false, []⟩ (h.1.trans h'.1.symm) (fun i hi => (h.2 i (by rw [← h.1]; exact hi)).eq (h'.2 i (by rw [← h.1]; exact hi)))
  · rw [if_neg hf] at h h'
    rw [h, h']
theorem Made.small {cols : Int} {Wh : List Bool} {F A : List Lr} (h : Made cols Wh F A) (hs : F.length ≤ 1048576 ∧ ∀ f ∈ F, SmallR f) : A.length ≤ 1048576 ∧ ∀ f ∈ A, f.cs.length ≤ 1048576 := by
  unfold Made at h
  by_cases hf : flagOk cols Wh F = true
  · rw [if_pos hf] at h
    refine ⟨by omega, fun f hfA => ?_⟩
    obtain ⟨i, hi, rfl⟩ := List.getElem_of_mem hfA
    have h1 := (h.2 i (by omega)).len
    have e : A.getD i ⟨[], false, []⟩ = A[i] := by rw [List.getD_eq_getElem?_getD, List.getElem?_eq_getElem hi]; rfl
    rw [e] at h1
    rw [h1]
    exact (hs.2 _ (at_mem F ⟨[], false, []⟩ (by omega))).1.1
  · rw [if_neg hf] at h
    rw [h]
    exact ⟨Nat.zero_le _, fun f hf => by cases hf⟩
set_option maxRecDepth 100000 in
set_option maxHeartbeats 8000000 in
theorem tightenLaw (cols : Int) (wv v : Value) (Wh : List Bool) (F : List Lr) (w : World) (hw : ArgBools w wv Wh) (h : ArgRows w v F) (hT : Tabs w) (hc1 : -9223372036854775808 ≤ cols) (hc2 : cols ≤ 9223372036854775807) :
    Calls Tryz.prog 3 #[.int .i64 cols, wv, v] w fun e w' => e = .returned (.bool true) ∧ Below w.heap.size w w' := by
  have H := hidG h
  have HW := hidG hw
  have HT := hidG hT
  obtain ⟨a, c, rfl, -⟩ := h
  obtain ⟨aw, cw, rfl, w1, w2, -⟩ := hw
  unfold maxLen at w2
  clear hT
  by_cases hwl : Wh.length ≤ 1048576
  · have y0 : decide ((1048576 : Int) < (Wh.length : Int)) = false := by rw [decide_eq_false_iff_not]; omega
    go_enter Tryz.func3, Tryz.ntmps3
    go_wp2_with fail
    refine (szLinRowS_any _ F 1048576 _ H.out (Nat.le_refl _)).mono ?_
    rintro e w3 ⟨(rfl | ⟨z, hz, rfl, hsm⟩), hb3⟩
    · have HB3 := hidG hb3
      clear hb3
      go_wp2_with fail
      go_ret
      exact ⟨rfl, HB3.out⟩
    have HB3 := hidG hb3
    have HSM := hidG hsm
    have y : decide ((z : Int) < 0) = false := by rw [decide_eq_false_iff_not]; omega
    clear hb3 hsm
    go_wp2_with fail
    refine (toBoolS_any _ Wh w3 (HW.out.below HB3.out) hwl).mono ?_
    rintro e w4 ⟨g4, c4, rfl, hown4, hb4⟩
    have HO4 := hidG hown4
    have HB4 : Hid (Below w.heap.size w w4) := HB3.out.trans (hb4.mono HB3.out.size)
    clear hown4 hb4
    go_wp2_with fail
    refine (toLinRowS_own _ F w4 (H.out.below HB4.out) HSM.out).mono ?_
    rintro e w5 ⟨v5, A5, rfl, hO5, hb5⟩
    obtain ⟨p5, c5, rfl⟩ := hO5.form
    have HO5 := hidG hO5
    have HB5 : Hid (Below w.heap.size w w5) := HB4.out.trans (hb5.mono HB4.out.size)
    have HW5 := hidG (bools_at (row_below HO4.out hb5))
    clear hO5 hb5
    go_wp2_with fail
    refine (tighten_spec cols _ _ Wh F w5 HW5.out HO5.out.at HSM.out hc1 hc2).mono ?_
    rintro e w6 ⟨v6, F6, A6, rfl, hO6, hM6, hb6⟩
    obtain ⟨p6, c6, rfl⟩ := hO6.form
    have HO6 := hidG hO6
    have HM6 : Hid (Made cols Wh F F6) := hM6
    have HB6 : Hid (Below w.heap.size w w6) := HB5.out.trans (hb6.mono HB5.out.size)
    clear hO6 hM6 hb6
    go_wp2_with fail
    refine (toBoolS_any _ Wh w6 (HW.out.below HB6.out) hwl).mono ?_
    rintro e w7 ⟨g7, c7, rfl, hown7, hb7⟩
    have HO7 := hidG hown7
    have HB67 := hidG hb7
    have HB7 : Hid (Below w.heap.size w w7) := HB6.out.trans (hb7.mono HB6.out.size)
    clear hown7 hb7
    go_wp2_with fail
    refine (toLinRowS_own _ F w7 (H.out.below HB7.out) HSM.out).mono ?_
    rintro e w8 ⟨v8, A8, rfl, hO8, hb8⟩
    obtain ⟨p8, c8, rfl⟩ := hO8.form
    have HO8 := hidG hO8
    have HB78 := hidG hb8
    have HB8 : Hid (Below w.heap.size w w8) := HB7.out.trans (hb8.mono HB7.out.size)
    have HB68 : Hid (Below w6.heap.size w6 w8) := HB67.out.trans (hb8.mono HB67.out.size)
    clear hO8 hb8
    go_wp2_with fail
    refine (tighten_impl cols _ _ Wh F w8 (bools_at (row_below HO7.out HB78.out)) HO8.out.at HO8.out.plain HSM.out hc1 hc2 (HT.out.below HB8.out)).mono ?_
    rintro e w9 ⟨v9, F9, A9, rfl, hO9, hM9, hb9⟩
    obtain rfl : F9 = F6 := Made.eq hM9 HM6.out
    obtain ⟨p9, c9, rfl⟩ := hO9.form
    have HO9 := hidG hO9
    have HB89 := hidG hb9
    have HB9 : Hid (Below w.heap.size w w9) := HB8.out.trans (hb9.mono HB8.out.size)
    have HB69 : Hid (Below w6.heap.size w6 w9) := HB68.out.trans (hb9.mono HB68.out.size)
    clear hO9 hM9 hb9
    have HSG := hidG (HM6.out.small HSM.out)
    go_wp2_with fail
    refine (eqLinRowS_same _ _ F9 w9 HO9.out.at (HO6.out.below HB69.out).at).mono ?_
    rintro e w10 ⟨rfl, hb10⟩
    have HB910 := hidG hb10
    have HB10 : Hid (Below w.heap.size w w10) := HB9.out.trans (hb10.mono HB9.out.size)
    clear hb10
    go_wp2_with fail
    refine (toBoolS_any _ Wh w10 (HW.out.below HB10.out) hwl).mono ?_
    rintro e w11 ⟨g11, c11, rfl, hown11, hb11⟩
    have HO11 := hidG hown11
    have HB911 : Hid (Below w9.heap.size w9 w11) := HB910.out.trans (hb11.mono HB910.out.size)
    have HB11 : Hid (Below w.heap.size w w11) := HB10.out.trans (hb11.mono HB10.out.size)
    clear hown11 hb11
    go_wp2_with fail
    have HB811 : Hid (Below w8.heap.size w8 w11) := HB89.out.trans (HB911.out.mono HB89.out.size)
    have HB711 : Hid (Below w7.heap.size w7 w11) := HB78.out.trans (HB811.out.mono HB78.out.size)
    refine (eqBoolS_same _ _ Wh w11 (bools_at (row_below HO7.out HB711.out)) (bools_at HO11.out)).mono ?_
    rintro e w12 ⟨rfl, hb12⟩
    have HB912 : Hid (Below w9.heap.size w9 w12) := HB911.out.trans (hb12.mono HB911.out.size)
    have HB12 : Hid (Below w.heap.size w w12) := HB11.out.trans (hb12.mono HB11.out.size)
    clear hb12
    go_wp2_with fail
    refine (toLinRowS_own _ F w12 (H.out.below HB12.out) HSM.out).mono ?_
    rintro e w13 ⟨v13, A13, rfl, hO13, hb13⟩
    obtain ⟨p13, c13, rfl⟩ := hO13.form
    have HO13 := hidG hO13
    have HB913 : Hid (Below w9.heap.size w9 w13) := HB912.out.trans (hb13.mono HB912.out.size)
    have HB13 : Hid (Below w.heap.size w w13) := HB12.out.trans (hb13.mono HB12.out.size)
    clear hO13 hb13
    go_wp2_with fail
    have HB813 : Hid (Below w8.heap.size w8 w13) := HB89.out.trans (HB913.out.mono HB89.out.size)
    refine (eqLinRowS_same _ _ F w13 (HO8.out.below HB813.out).at HO13.out.at).mono ?_
    rintro e w14 ⟨rfl, hb14⟩
    have HB914 : Hid (Below w9.heap.size w9 w14) := HB913.out.trans (hb14.mono HB913.out.size)
    have HB14 : Hid (Below w.heap.size w w14) := HB13.out.trans (hb14.mono HB13.out.size)
    have HB814 : Hid (Below w8.heap.size w8 w14) := HB813.out.trans (hb14.mono HB813.out.size)
    have HB714 : Hid (Below w7.heap.size w7 w14) := HB78.out.trans (HB814.out.mono HB78.out.size)
    have HB614 : Hid (Below w6.heap.size w6 w14) := HB69.out.trans (HB914.out.mono HB69.out.size)
    clear hb14
    go_wp2_with fail
    have HX1 : Hid (∀ b, (Value.slice (some ⟨g7, 0, none⟩) Wh.length c7).ownBlock = some b → w6.heap.size ≤ b ∧ b < w7.heap.size) := fun b hb => HO7.out.lt b hb
    refine (markBoolS_any w6.heap.size w14.heap.size Wh.length 1 _ w14 (rw_own (row_below HO7.out HB714.out) (Nat.le_refl _) (Nat.le_refl _)) hwl (by decide)).mono ?_
    rintro e w15 ⟨rfl, hon15⟩
    have HON15 := hidG hon15
    have HB15 : Hid (Below w.heap.size w w15) := hon15.toBelow HB14.out (fun b hb => Nat.le_trans HB6.out.size (HX1.out b hb).1)
    have HB615 : Hid (Below w6.heap.size w6 w15) := hon15.toBelow HB614.out (fun b hb => (HX1.out b hb).1)
    have HO815 : Hid (OutR w7.heap.size w15 (.slice p8 F.length c8) F A8) := (HO8.out.below HB814.out).keep (fun b h1 h2 => hon15.block b h2 (fun hb => by have := (HX1.out b hb).2; omega))
    have HO915 : Hid (OutR w8.heap.size w15 (.slice p9 F9.length c9) F9 A9) := (HO9.out.below HB914.out).keep (fun b h1 h2 => hon15.block b h2 (fun hb => by have := (HX1.out b hb).2; have := HB78.out.size; omega))
    have HPF8 : Hid (∀ b, PF (.slice p8 F.length c8) A8 b → w7.heap.size ≤ b ∧ b < w8.heap.size) := HO8.out.pf
    have HPF9 : Hid (∀ b, PF (.slice p9 F9.length c9) A9 b → w8.heap.size ≤ b) := fun b hb => (HO9.out.pf b hb).1
    have HCS : Hid (∀ f ∈ F, f.cs.length ≤ 1048576) := fun f hf => (HSM.out.2 f hf).1.1
    clear hon15
    go_wp2_with fail
    have HMK : Hid (Calls Tryz.prog 13 #[.slice p8 F.length c8, .int .i64 (1 + (Wh.length : Int))] w15 fun e w' => (∃ k2 : Nat, e = .returned (.int .i64 (k2 : Nat)) ∧ k2 ≤ 2000000000000) ∧ OnB (PF (.slice p8 F.length c8) A8) w15 w') := by
      unfold Hid
      rw [show (1 + (Wh.length : Int)) = ((1 + Wh.length : Nat) : Int) by omega]
      refine (markLinRowS_eq w7.heap.size w15.heap.size (1 + Wh.length) _ F A8 w15 (HO815.out.x (Nat.le_refl _) (Nat.le_refl _)) HSM.out.1 HCS.out (by omega) (by omega)).mono ?_
      rintro e w' ⟨rfl, h1, _, _⟩
      refine ⟨⟨_, rfl, ?_⟩, h1⟩
      have := kfR_le (k := 1 + Wh.length) HCS.out F.length (Nat.le_refl _)
      have := HSM.out.1
      omega
    refine HMK.out.mono ?_
    rintro e w16 ⟨⟨k2, rfl, hk2⟩, hon16⟩
    have HB16 : Hid (Below w.heap.size w w16) := hon16.toBelow HB15.out (fun b hb => Nat.le_trans HB7.out.size (HPF8.out b hb).1)
    have HB616 : Hid (Below w6.heap.size w6 w16) := hon16.toBelow HB615.out (fun b hb => Nat.le_trans HB67.out.size (HPF8.out b hb).1)
    have HO916 : Hid (OutR w8.heap.size w16 (.slice p9 F9.length c9) F9 A9) := HO915.out.keep (fun b h1 h2 => hon16.block b h2 (fun hb => by have := (HPF8.out b hb).2; omega))
    have yk : decide ((k2 : Int) < 0) = false := decide_eq_false (by omega)
    clear hon16
    go_wp2_with fail
    refine (eqLinRowS_same _ _ F9 w16 HO916.out.at (HO6.out.below HB616.out).at).mono ?_
    rintro e w17 ⟨rfl, hb17⟩
    have HB17 : Hid (Below w.heap.size w w17) := HB16.out.trans (hb17.mono HB16.out.size)
    have HB617 : Hid (Below w6.heap.size w6 w17) := HB616.out.trans (hb17.mono HB616.out.size)
    have HO917 := hidG (HO916.out.below hb17)
    clear hb17
    obtain ⟨q1, hq1⟩ : ∃ q1, kfR F9 1 F9.length = q1 := ⟨_, rfl⟩
    have HMG := hidG (markLinRowS_eq w8.heap.size w17.heap.size 1 _ F9 A9 w17 (HO917.out.x (Nat.le_refl _) (Nat.le_refl _)) HSG.out.1 HSG.out.2 (by decide) (by decide))
    have HHD : Hid (∀ W, HeldR W (.slice p9 F9.length c9) F9 A9 1 F9.length → (∀ g c, (Value.slice p9 F9.length c9) = .slice (some ⟨g, 0, none⟩) F9.length c → ∀ i (h : i < A9.length), W.cell? ⟨g, i * 3, none⟩ = some A9[i]) → Calls Tryz.prog 14 #[.slice p9 F9.length c9, .int .i64 1] W fun e w' => e = .returned (.int .i64 (q1 : Nat)) ∧ Below W.heap.size W w') := fun W hh hat => by
      obtain ⟨p', c', e, m1, m2, m3⟩ := own_row HO917.out.own
      cases e
      rw [← hq1]
      refine heldLinRowS_eq 1 p9 c9 F9 A9 W m1 m2 HSG.out.1 HSG.out.2 (by decide) (by decide) HO917.out.len ?_ (fun g e => hat g c9 (by rw [e])) hh HO917.out.rowsIn
      rcases m3 with m3 | ⟨g, m3, _⟩
      · exact .inl m3
      · exact .inr ⟨g, m3⟩
    rw [hq1] at HMG
    have hqb : q1 ≤ 2000000000000 := by
      rw [← hq1]
      have := kfR_le (k := 1) HSG.out.2 F9.length (Nat.le_refl _)
      have := HSG.out.1
      omega
    have yq : decide ((q1 : Int) < 0) = false := decide_eq_false (by omega)
    clear hq1
    go_wp2_with fail
    refine HMG.out.mono ?_
    rintro e w18 ⟨rfl, hon18, hh18, hat18⟩
    have HB18 : Hid (Below w.heap.size w w18) := hon18.toBelow HB17.out (fun b hb => Nat.le_trans HB8.out.size (HPF9.out b hb))
    have HB618 : Hid (Below w6.heap.size w6 w18) := hon18.toBelow HB617.out (fun b hb => Nat.le_trans HB68.out.size (HPF9.out b hb))
    have HH18 := hidG hh18
    have HA18 := hidG hat18
    clear hon18 hh18 hat18
    go_wp2_with fail
    refine (HHD.out _ HH18.out HA18.out).mono ?_
    rintro e w19 ⟨rfl, hb19⟩
    have HB1819 := hidG hb19
    have HB19 : Hid (Below w.heap.size w w19) := HB18.out.trans (hb19.mono HB18.out.size)
    clear hb19
    go_wp2_with fail
    refine (toBoolS_any _ Wh w19 (HW.out.below HB19.out) hwl).mono ?_
    rintro e w20 ⟨g20, c20, rfl, hown20, hb20⟩
    have HO20 := hidG hown20
    have HB1820 : Hid (Below w18.heap.size w18 w20) := HB1819.out.trans (hb20.mono HB1819.out.size)
    have HB20 : Hid (Below w.heap.size w w20) := HB19.out.trans (hb20.mono HB19.out.size)
    clear hown20 hb20
    go_wp2_with fail
    refine (toLinRowS_own _ F w20 (H.out.below HB20.out) HSM.out).mono ?_
    rintro e w21 ⟨v21, A21, rfl, hO21, hb21⟩
    obtain ⟨p21, c21, rfl⟩ := hO21.form
    have HO21 := hidG hO21
    have HW21 := hidG (bools_at (row_below HO20.out hb21))
    have HB1821 : Hid (Below w18.heap.size w18 w21) := HB1820.out.trans (hb21.mono HB1820.out.size)
    have HB21 : Hid (Below w.heap.size w w21) := HB20.out.trans (hb21.mono HB20.out.size)
    clear hO21 hb21
    go_wp2_with fail
    refine (tighten_impl cols _ _ Wh F w21 HW21.out HO21.out.at HO21.out.plain HSM.out hc1 hc2 (HT.out.below HB21.out)).mono ?_
    rintro e w22 ⟨v22, F22, A22, rfl, hO22, hM22, hb22⟩
    obtain rfl : F22 = F9 := Made.eq hM22 HM6.out
    obtain ⟨p22, c22, rfl⟩ := hO22.form
    have HO22 := hidG hO22
    have HB1822 : Hid (Below w18.heap.size w18 w22) := HB1821.out.trans (hb22.mono HB1821.out.size)
    have HB622 : Hid (Below w6.heap.size w6 w22) := HB618.out.trans (HB1822.out.mono HB618.out.size)
    have HB22 : Hid (Below w.heap.size w w22) := HB21.out.trans (hb22.mono HB21.out.size)
    clear hO22 hM22 hb22
    go_wp2_with fail
    refine (eqLinRowS_same _ _ F22 w22 HO22.out.at (HO6.out.below HB622.out).at).mono ?_
    rintro e w23 ⟨rfl, hb23⟩
    have HB1823 : Hid (Below w18.heap.size w18 w23) := HB1822.out.trans (hb23.mono HB1822.out.size)
    have HB23 : Hid (Below w.heap.size w w23) := HB22.out.trans (hb23.mono HB22.out.size)
    clear hb23
    go_wp2_with fail
    refine (HHD.out _ (HH18.out.below HB1823.out) (fun g c e i hi => ?cell)).mono ?_
    case cell =>
      have hc := HA18.out g c e i hi
      exact (HB1823.out.cell (p := ⟨g, i * 3, none⟩) (World.block_lt_of_cell? w18 _ hc)).trans hc
    rintro e w24 ⟨rfl, hb24⟩
    have HB24 : Hid (Below w.heap.size w w24) := HB23.out.trans (hb24.mono HB23.out.size)
    clear hb24
    go_wp2_with fail
    go_ret
    exact ⟨rfl, HB24.out⟩
  · have y0 : decide ((1048576 : Int) < (Wh.length : Int)) = true := by rw [decide_eq_true_iff]; omega
    go_enter Tryz.func3, Tryz.ntmps3
    go_wp2_with fail
    go_ret
    exact ⟨rfl, Below.refl _ _⟩
end Go.Proofs.YtebldkelihmihaaGreatDoor.L
