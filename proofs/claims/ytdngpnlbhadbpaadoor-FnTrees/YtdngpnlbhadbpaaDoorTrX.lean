import Derived.Test.YtdngpnlbhadbpaaDoorTrK
import Derived.Test.YtdngpnlbhadbpaaDoorTrV
namespace Go.Proofs.YtdngpnlbhadbpaaDoor
open Go.ChangeShapes Go.WideShapes Go.ChangeAt Go.RowKit
theorem numOk_nil {s : ByteArray} (h : s.size = 0) (dec : Bool) : numOk dec s.data.toList = false := by rw [data_nil h]; cases dec <;> rfl
theorem numOk_no {s : ByteArray} (h : 0 < s.size) (hd : dg s[0] = false) (dec : Bool) : numOk dec s.data.toList = false := by
  have e : runL dg s.data.toList = 0 := by
    have := runL_drop_zero (p := dg) (s := s) (k := 0) (fun _ => hd)
    simpa using this
  show (decide (0 < runL dg s.data.toList) && _ && _) = false
  rw [e]; simp
set_option maxRecDepth 100000 in
set_option maxHeartbeats 4000000 in
theorem l3Word_3 (s : ByteArray) (k0 q0 : Int) (w : World) (hs : s.size ≤ 20000) :
    Calls Tryd.prog 35 #[.agg #[.int .i64 3, .string s, .int .i64 k0, .int .i64 q0]] w fun e w' => e = .returned (.bool (wordOk 3 s.data.toList)) ∧ Below w.heap.size w w' := by
  by_cases h0 : s.size = 0
  · have F : Hid (wordOk 3 s.data.toList = false) := numOk_nil h0 false
    have z : ((s.size : Int) == 0) = true := by rw [beq_iff_eq]; omega
    clear h0
    go_enter Tryd.func35, Tryd.ntmps35
    go_wp2_with fail
    go_ret
    exact ⟨ret_bool F.out.symm, below_alloc _ _⟩
  have hp : 0 < s.size := by omega
  have z : ((s.size : Int) == 0) = false := by rw [beq_eq_false_iff_ne]; omega
  clear h0
  by_cases h1 : dg s[0] = true
  · obtain ⟨a, ha⟩ : ∃ a, (tokN s.data.toList).1 = a := ⟨_, rfl⟩
    obtain ⟨b, hb⟩ : ∃ b, (tokN s.data.toList).2 = b := ⟨_, rfl⟩
    have F : Hid (wordOk 3 s.data.toList = (decide (a = 3) && decide (b = s.size))) := by
      have := numOk_tok hp h1 false
      rw [ha, hb] at this; exact this
    have HA := ha
    have HT : Hid (∀ W, Calls Tryd.prog 56 #[.string s, .int .i64 0] W fun e w' => (∃ t, e = .returned (.agg #[.int .i64 a, .string t, .int .i64 (b : Nat)])) ∧ Below W.heap.size W w') := fun W => by
      have := l3Token_num s W hs hp h1
      rw [ha, hb] at this; exact this
    clear ha hb HA
    go_enter Tryd.func35, Tryd.ntmps35
    go_wp2_with (first | (go_at_call 55; refine (l3Digit_ex _ _).mono ?_; rintro e w' ⟨rfl, rfl⟩) | (go_at_call 56; refine (HT.out _).mono ?_; rintro e w1 ⟨⟨t, rfl⟩, hb1⟩; have hx := ((bx_new w [.int .i64 3, .string s, .int .i64 k0, .int .i64 q0] 31).below (by simp) hb1).alloc (.cells #[.int .i64 a, .string t, .int .i64 (b : Int)] 83); have hy := bx_new w1 [.int .i64 a, .string t, .int .i64 (b : Int)] 83; have HB : Hid (Below w.heap.size w (w1.alloc (.cells #[.int .i64 a, .string t, .int .i64 (b : Int)] 83))) := ((below_alloc _ _).trans (hb1.mono (by simp))).alloc (by have := hb1.size; simp at this; omega) _; obtain ⟨c0, c1, c2, c3⟩ := hx.c4; obtain ⟨d0, d1, d2⟩ := hy.c3; clear hb1 hx hy))
    · rename_i e3
      have HE := hidG e3
      go_ret
      refine ⟨ret_bool ?_, ?_⟩
      · rw [F.out, decide_eq_true HE.out, Bool.true_and, Bool.eq_iff_iff, beq_iff_eq, decide_eq_true_iff]; omega
      · have := HB.out; rw [HE.out] at this; exact this
    · rename_i e3
      have HE : Hid (¬ a = 3) := e3
      go_ret
      exact ⟨ret_bool (by rw [F.out, decide_eq_false HE.out]; rfl), HB.out⟩
  · have h1' : dg s[0] = false := by simpa using h1
    have F : Hid (wordOk 3 s.data.toList = false) := numOk_no hp h1' false
    clear h1
    go_enter Tryd.func35, Tryd.ntmps35
    go_wp2_with (go_at_call 55; refine (l3Digit_ex _ _).mono ?_; rintro e w' ⟨rfl, rfl⟩)
    go_ret
    exact ⟨ret_bool F.out.symm, below_alloc _ _⟩
set_option maxRecDepth 100000 in
set_option maxHeartbeats 4000000 in
theorem l3Word_4 (s : ByteArray) (k0 q0 : Int) (w : World) (hs : s.size ≤ 20000) :
    Calls Tryd.prog 35 #[.agg #[.int .i64 4, .string s, .int .i64 k0, .int .i64 q0]] w fun e w' => e = .returned (.bool (wordOk 4 s.data.toList)) ∧ Below w.heap.size w w' := by
  by_cases h0 : s.size = 0
  · have F : Hid (wordOk 4 s.data.toList = false) := numOk_nil h0 true
    have z : ((s.size : Int) == 0) = true := by rw [beq_iff_eq]; omega
    clear h0
    go_enter Tryd.func35, Tryd.ntmps35
    go_wp2_with fail
    go_ret
    exact ⟨ret_bool F.out.symm, below_alloc _ _⟩
  have hp : 0 < s.size := by omega
  have z : ((s.size : Int) == 0) = false := by rw [beq_eq_false_iff_ne]; omega
  clear h0
  by_cases h1 : dg s[0] = true
  · obtain ⟨a, ha⟩ : ∃ a, (tokN s.data.toList).1 = a := ⟨_, rfl⟩
    obtain ⟨b, hb⟩ : ∃ b, (tokN s.data.toList).2 = b := ⟨_, rfl⟩
    have F : Hid (wordOk 4 s.data.toList = (decide (a = 4) && decide (b = s.size))) := by
      have := numOk_tok hp h1 true
      rw [ha, hb] at this; exact this
    have HA := ha
    have HT : Hid (∀ W, Calls Tryd.prog 56 #[.string s, .int .i64 0] W fun e w' => (∃ t, e = .returned (.agg #[.int .i64 a, .string t, .int .i64 (b : Nat)])) ∧ Below W.heap.size W w') := fun W => by
      have := l3Token_num s W hs hp h1
      rw [ha, hb] at this; exact this
    clear ha hb HA
    go_enter Tryd.func35, Tryd.ntmps35
    go_wp2_with (first | (go_at_call 55; refine (l3Digit_ex _ _).mono ?_; rintro e w' ⟨rfl, rfl⟩) | (go_at_call 56; refine (HT.out _).mono ?_; rintro e w1 ⟨⟨t, rfl⟩, hb1⟩; have hx := ((bx_new w [.int .i64 4, .string s, .int .i64 k0, .int .i64 q0] 31).below (by simp) hb1).alloc (.cells #[.int .i64 a, .string t, .int .i64 (b : Int)] 83); have hy := bx_new w1 [.int .i64 a, .string t, .int .i64 (b : Int)] 83; have HB : Hid (Below w.heap.size w (w1.alloc (.cells #[.int .i64 a, .string t, .int .i64 (b : Int)] 83))) := ((below_alloc _ _).trans (hb1.mono (by simp))).alloc (by have := hb1.size; simp at this; omega) _; obtain ⟨c0, c1, c2, c3⟩ := hx.c4; obtain ⟨d0, d1, d2⟩ := hy.c3; clear hb1 hx hy))
    · rename_i e3
      have HE := hidG e3
      go_ret
      refine ⟨ret_bool ?_, ?_⟩
      · rw [F.out, decide_eq_true HE.out, Bool.true_and, Bool.eq_iff_iff, beq_iff_eq, decide_eq_true_iff]; omega
      · have := HB.out; rw [HE.out] at this; exact this
    · rename_i e3
      have HE : Hid (¬ a = 4) := e3
      go_ret
      exact ⟨ret_bool (by rw [F.out, decide_eq_false HE.out]; rfl), HB.out⟩
  · have h1' : dg s[0] = false := by simpa using h1
    have F : Hid (wordOk 4 s.data.toList = false) := numOk_no hp h1' true
    clear h1
    go_enter Tryd.func35, Tryd.ntmps35
    go_wp2_with (go_at_call 55; refine (l3Digit_ex _ _).mono ?_; rintro e w' ⟨rfl, rfl⟩)
    go_ret
    exact ⟨ret_bool F.out.symm, below_alloc _ _⟩
theorem l3Word_any (n : Nd) (q0 : Int) (w : World) (hs : n.text.size ≤ 20000) :
    Calls Tryd.prog 35 #[.agg #[.int .i64 n.kind, .string n.text, .int .i64 n.kids, .int .i64 q0]] w fun e w' => e = .returned (.bool (wordOk n.kind n.t)) ∧ Below w.heap.size w w' := by
  obtain ⟨k, s, k0⟩ := n
  have hm : s.size ≤ maxLen := by unfold maxLen; have : s.size ≤ 20000 := hs; omega
  show Calls Tryd.prog 35 #[.agg #[.int .i64 k, .string s, .int .i64 k0, .int .i64 q0]] w fun e w' => e = .returned (.bool (wordOk k s.data.toList)) ∧ Below w.heap.size w w'
  by_cases ho : k < 1 ∨ 7 < k
  · exact l3Word_other k s k0 q0 w ho
  have hk : k = 1 ∨ k = 2 ∨ k = 3 ∨ k = 4 ∨ k = 5 ∨ k = 6 ∨ k = 7 := by omega
  rcases hk with rfl | rfl | rfl | rfl | rfl | rfl | rfl
  · exact l3Word_1 s k0 q0 w
  · exact l3Word_2 s k0 q0 w hm
  · exact l3Word_3 s k0 q0 w hs
  · exact l3Word_4 s k0 q0 w hs
  · by_cases h0 : s.size = 0
    · exact l3Word_5n s k0 q0 w h0
    · exact l3Word_5 s k0 q0 w hm (by omega)
  · exact l3Word_6 s k0 q0 w hm
  · by_cases h0 : s.size = 0
    · exact l3Word_7n s k0 q0 w h0
    · exact l3Word_7 s k0 q0 w hm (by omega)
end Go.Proofs.YtdngpnlbhadbpaaDoor
