import Derived.Test.YtdngpnlbhadbpaaDoorTrFt
import Derived.Shelf.Strings.BuilderK
namespace Go.Proofs.YtdngpnlbhadbpaaDoor
open Go.Shelf Go.RowKit
theorem writeByte_k (B b : Nat) (bs : List Value) (c : Int) (w : World) (h : Lib.IsBuilderF 67 5 B b bs w) (hlen : bs.length + 1 ≤ 140737488355328) (hBw : B ≤ w.heap.size) :
    Calls Tryd.prog 41 #[.pointer (some ⟨b, 0, none⟩), .int .u8 c] w fun e w' => e = .returned .nilIface ∧ (Lib.BuilderAtF 67 5 B b (.pointer (some ⟨b, 0, none⟩)) (bs ++ [.int .u8 c]) w' ∧ Below B w w' ∧ Lib.OthersKept 5 (some b) w w') :=
  Any.Builder_WriteByte_k lays167 extra167 B b bs c w h hlen hBw
theorem writeString_k (B b : Nat) (bs : List Value) (s : ByteArray) (w : World) (h : Lib.IsBuilderF 67 5 B b bs w) (hlen : bs.length + s.size ≤ 140737488355328) (hBw : B ≤ w.heap.size) :
    Calls Tryd.prog 39 #[.pointer (some ⟨b, 0, none⟩), .string s] w fun e w' => e = .returned (.tuple #[.int .i64 s.size, .nilIface]) ∧ (Lib.BuilderAtF 67 5 B b (.pointer (some ⟨b, 0, none⟩)) (bs ++ Lib.strCells s) w' ∧ Below B w w' ∧ Lib.OthersKept 5 (some b) w w') :=
  Any.Builder_WriteString_k lays166 extra166 B b bs s w h hlen hBw
theorem builderString_k (B b : Nat) (l : List UInt8) (w : World) (h : Lib.IsBuilderF 67 5 B b (Lib.byteCells l) w) (hBw : B ≤ w.heap.size) :
    Calls Tryd.prog 42 #[.pointer (some ⟨b, 0, none⟩)] w fun e w' => e = .returned (.string ⟨l.toArray⟩) ∧ Below B w w' :=
  (Any.Builder_String_any_k lays169 extra169 B b l w h hBw).mono fun _ _ h => ⟨h.1, h.2.2.1⟩
/-- A builder whose blocks are as they were. -/
theorem builderAtF_kept {B b : Nat} {p : Value} {bs : List Value} {w w' : World} (h : Lib.BuilderAtF 67 5 B b p bs w)
    (hk : ∀ (k : Nat) (o : Obj), w.heap[k]? = some o → (∀ c fz, o ≠ Obj.cells c 3 fz) → (∀ c fz, o ≠ Obj.cells c 64 fz) → w'.heap[k]? = some o) : Lib.BuilderAtF 67 5 B b p bs w' := by
  obtain ⟨h1, v, h2, h3, h4⟩ := h
  refine ⟨h1, v, hk b _ h2 (fun c fz e => by cases e) (fun c fz e => by cases e), ⟨h3.1, ?_⟩, h4⟩
  rcases h3.2 with h0 | ⟨g, cap, cur, fz, hv, hg, hh, hr⟩
  · exact .inl h0
  · exact .inr ⟨g, cap, cur, fz, hv, hg, hk g _ hh (fun c fz e => by cases e) (fun c fz e => by cases e), hr⟩
theorem builderF_kept {B b : Nat} {bs : List Value} {w w' : World} (h : Lib.IsBuilderF 67 5 B b bs w)
    (hk : ∀ (k : Nat) (o : Obj), w.heap[k]? = some o → (∀ c fz, o ≠ Obj.cells c 3 fz) → (∀ c fz, o ≠ Obj.cells c 64 fz) → w'.heap[k]? = some o) : Lib.IsBuilderF 67 5 B b bs w' :=
  h.elim (fun x => .inl (builderAtF_kept x hk)) (fun x => .inr (builderAtF_kept x hk))
theorem builderF_below {B b : Nat} {bs : List Value} {w w' : World} (h : Lib.IsBuilderF 67 5 B b bs w) (hb : Below w.heap.size w w') : Lib.IsBuilderF 67 5 B b bs w' :=
  builderF_kept h fun k _ hk _ _ => (hb.block k (Array.getElem?_eq_some_iff.1 hk).1).trans hk
/-- .. behind a 'take' of the lists in block lb. -/
theorem builderF_take {B b base lb : Nat} {bs : List Value} {L : List Int} {w w' : World} (h : Lib.IsBuilderF 67 5 B b bs w) (ho : OL base lb L w) (hk : Lib.OthersKept 3 (some lb) w w') : Lib.IsBuilderF 67 5 B b bs w' :=
  builderF_kept h fun k o hko h1 h2 => hk k o hko (fun e => by
    cases e
    obtain ⟨_, v, hv, _⟩ := ho
    rw [hko] at hv
    exact h2 _ _ (Option.some.inj hv)) h1
/-- The lists behind a write into a builder. -/
theorem OL.write {B b base lb : Nat} {bs : List Value} {L : List Int} {w w' : World} (ho : OL base lb L w) (h : Lib.IsBuilderF 67 5 B b bs w) (hk : Lib.OthersKept 5 (some b) w w') : OL base lb L w' := by
  obtain ⟨h1, v, h2, h3, h4⟩ := ho
  have hbk : ∃ p u, w.heap[b]? = some (.cells #[p, u] 67 (0, 0)) := by
    rcases h with ⟨_, u, hu, _⟩ | ⟨_, u, hu, _⟩
    · exact ⟨_, _, hu⟩
    · exact ⟨_, _, hu⟩
  obtain ⟨p, u, hbk⟩ := hbk
  refine ⟨h1, v, hk lb _ h2 (fun e => by cases e; rw [hbk] at h2; cases h2) (fun c fz e => by cases e), own_other h3 (fun g hg => ?_), h4⟩
  obtain ⟨c, fz, hc⟩ := own_kind h3 g hg
  rw [hc]
  exact hk g _ hc (fun e => by cases e; rw [hbk] at hc; cases hc) (fun c fz e => by cases e)
theorem builderF_new (w : World) : Lib.IsBuilderF 67 5 w.heap.size w.heap.size (Lib.byteCells []) (w.alloc (.cells #[.pointer none, .slice none 0 0] 67)) :=
  Lib.IsBuilderF.of (builder_new w rfl)
end Go.Proofs.YtdngpnlbhadbpaaDoor
