import Derived.Test.YtdngpnlbhadbpaaTkW
import Derived.Test.YtdngpnlbhadbpaaTkU
namespace Go.Proofs.Ytdngpnlbhadbpaa
open Go.ChangeShapes Go.WideShapes Go.ChangeAt Go.RowKit
theorem add_any (base b z : Nat) (st : RS) (k : Int) (t : ByteArray) (q : Int) (w : World) (h : TR base b st.ns st.op w) (hi : Inv z st) (hbw : base ≤ w.heap.size) :
    Calls Try.prog 15 #[.pointer (some ⟨b, 0, none⟩), .agg #[.int .i64 k, .string t, .int .i64 0, .int .i64 q]] w fun e w' => e = .returned (.int .i64 (addE st.ns st.op k)) ∧ (addE st.ns st.op k = 0 → TR base b (addN st.ns st.op k t q) (addO st.ns st.op k) w') ∧ Below base w w' := by
  obtain ⟨i, ns, op⟩ := st
  have hn := hi.n
  have ho := hi.o
  dsimp only at h hn ho ⊢
  by_cases h8 : ns.length = 8000
  · have hE : addE ns op k = 5 := by unfold addE; rw [if_pos h8]
    refine (add_many base b ns op k t q w h h8 hbw).mono ?_
    rintro e w' ⟨rfl, hb⟩
    rw [hE]
    exact ⟨rfl, (fun e => absurd e (by decide)), hb⟩
  by_cases hk : k = 1
  · subst hk
    by_cases h2 : op.length = 200
    · have hE : addE ns op 1 = 6 := by unfold addE; rw [if_neg h8, if_pos ⟨rfl, h2⟩]
      refine (add_deep base b ns op t q w h (by omega) h2 hbw).mono ?_
      rintro e w' ⟨rfl, hb⟩
      rw [hE]
      exact ⟨rfl, (fun e => absurd e (by decide)), hb⟩
    · have hE : addE ns op 1 = 0 := by unfold addE; rw [if_neg h8, if_neg (fun e => h2 e.2)]
      have hO : addO ns op 1 = ns.length :: op := by unfold addO; rw [if_pos rfl]
      rw [hE, hO]
      cases op with
      | nil =>
        refine (add_list0 base b ns t q w h (by omega) hbw).mono ?_
        rintro e w' ⟨rfl, h1, hb⟩
        exact ⟨rfl, fun _ => h1, hb⟩
      | cons j r =>
        have hj := hi.j j (by simp)
        have hkk := hi.k ns[j] (List.getElem_mem _)
        dsimp only at hj hkk
        rw [List.length_cons] at h2 ho
        refine (add_list base b j r ns t q w h (by omega) (by omega) hj ⟨hkk.1, by omega⟩ hbw).mono ?_
        rintro e w' ⟨rfl, h1, hb⟩
        exact ⟨rfl, fun _ => h1, hb⟩
  · have hE : addE ns op k = 0 := by unfold addE; rw [if_neg h8, if_neg (fun e => hk e.1)]
    have hO : addO ns op k = op := by unfold addO; rw [if_neg hk]
    rw [hE, hO]
    cases op with
    | nil =>
      refine (add_leaf0 base b ns k t q w h (by omega) hk hbw).mono ?_
      rintro e w' ⟨rfl, h1, hb⟩
      exact ⟨rfl, fun _ => h1, hb⟩
    | cons j r =>
      have hj := hi.j j (by simp)
      have hkk := hi.k ns[j] (List.getElem_mem _)
      dsimp only at hj hkk
      rw [List.length_cons] at ho
      refine (add_leaf base b j r ns k t q w h (by omega) ho hj ⟨hkk.1, by omega⟩ hk hbw).mono ?_
      rintro e w' ⟨rfl, h1, hb⟩
      exact ⟨rfl, fun _ => h1, hb⟩
/-- What a reader's call ends with. -/
def ResP (base : Nat) (R : RR) (e : Ending) (w : World) : Prop := match R with
  | .inl (c, q) => e = resE c q
  | .inr ns => ∃ v, e = .returned (.agg #[.int .i64 0, .int .i64 0, v]) ∧ w.ownsRow base 35 4 v ns.length (cellsN ns)
theorem result_any (base b z : Nat) (st : RS) (w : World) (h : TR base b st.ns st.op w) (hi : Inv z st) (hbw : base ≤ w.heap.size) :
    Calls Try.prog 16 #[.pointer (some ⟨b, 0, none⟩)] w fun e w' => ResP base (endM st.ns st.op) e w' ∧ Below base w w' := by
  obtain ⟨i, ns, op⟩ := st
  have hn := hi.n
  have ho := hi.o
  dsimp only at h hn ho ⊢
  cases op with
  | nil =>
    refine (result_ok base b ns w h hbw).mono ?_
    rintro e w' ⟨h1, hb⟩
    exact ⟨h1, hb⟩
  | cons j r =>
    have hj := hi.j j (by simp)
    dsimp only at hj
    rw [List.length_cons] at ho
    refine (result_open base b j r ns w h hj (by omega) hn hbw).mono ?_
    rintro e w' ⟨h1, hb⟩
    exact ⟨h1, hb⟩
/-- What is read of a text. -/
def ReadsTo (S : ByteArray) (R : RR) : Prop := (20000 < S.size ∧ R = RR.err 1 0) ∨ (S.size ≤ 20000 ∧ Run S.data.toList ⟨0, [], []⟩ R)
theorem reads_some (S : ByteArray) : ∃ R, ReadsTo S R := by
  by_cases h : S.size ≤ 20000
  · obtain ⟨R, hR⟩ := run_all S _ ⟨0, [], []⟩ (Nat.le_refl _)
    exact ⟨R, .inr ⟨h, hR⟩⟩
  · exact ⟨_, .inl ⟨by omega, rfl⟩⟩
end Go.Proofs.Ytdngpnlbhadbpaa
