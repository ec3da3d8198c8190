import Derived.Test.YtdphpfffofeklaaDoorPtD
import Derived.Test.YtdphpfffofeklaaDoorPtLay
import Derived.Test.YtdphpfffofeklaaDoorShelf
import Derived.Lib.LaidTab
import Derived.Lib.FrozenHead
import Derived.Lib.OthersKept
import Derived.Lib.Builder
import Derived.Lib.AppendIntMem
namespace Go.Proofs.YtdphpfffofeklaaDoor.P
open Go.ChangeShapes Go.WideShapes Go.ChangeAt Go.RowKit
open L (strOf strOf_toList StrsAt)
/-- The table of powers of ten is as it was laid. -/
def Tb (w : World) : Prop := Lib.TabIs Tryd.prog w "internal/strconv.uint64pow10" .u64 Lib.pow10Tab
theorem Tb.below {w w' : World} (h : Tb w) (hb : Below w.heap.size w w') : Tb w' := Lib.tabBelow_of_tabIs h w' hb
theorem itoa_any (n : Int) (w : World) (h0 : -9223372036854775808 ≤ n) (h1 : n ≤ 9223372036854775807) (ht : Tb w) :
    Calls Tryd.prog 42 #[.int .i64 n] w fun e w' => e = .returned (.string (strOf (Lib.itoa n))) ∧ Below w.heap.size w w' :=
  (Tryd.strconv_Itoa n h0 h1 w ht).mono fun _ _ ⟨he, k, os, hw⟩ => ⟨he, hw ▸ Lib.below_grow _ w (Nat.le_refl _) k os⟩
theorem join_any (v : Value) (M : List (List UInt8)) (w : World) (h : StrsAt w v M) (hlen : (Lib.join M [32]).length ≤ 140737488355328) (hn : M.length ≤ 140737488355328) :
    Calls Tryd.prog 45 #[v, .string ⟨#[32]⟩] w fun e w' => e = .returned (.string (strOf (Lib.join M [32]))) ∧ Below w.heap.size w w' := by
  obtain ⟨p, c, rfl, h1, h2, h3⟩ := h
  rcases h3 with rfl | ⟨b, rfl, hb, hc⟩
  · exact (Tryd.strings_Join_none p c ⟨#[32]⟩ w).mono fun _ _ ⟨he, hw⟩ => ⟨he, hw ▸ Below.refl _ _⟩
  · have e1 : (M.map L.strOf).map (fun x => x.data.toList) = M := by
      rw [List.map_map]
      conv => rhs; rw [← List.map_id M]
      refine List.map_congr_left fun x _ => ?_
      exact strOf_toList x
    have := Tryd.strings_Join b 0 c (M.map L.strOf) ⟨#[32]⟩ w (fun j x hx => by
      rw [List.getElem?_map] at hx
      cases hj : M[j]? with
      | none => rw [hj] at hx; cases hx
      | some y =>
        rw [hj] at hx
        obtain ⟨hl, hy⟩ := List.getElem?_eq_some_iff.1 hj
        rw [Nat.zero_add, hc j hl, hy]
        simpa using hx) hb (by simpa using hn) (by simpa using h1) (by rw [e1]; exact hlen)
    rw [e1, List.length_map] at this
    exact this
/-- A builder and what is in it. -/
def Bd (B b : Nat) (l : List UInt8) (w : World) : Prop := Lib.IsBuilderF 47 5 B b (Lib.byteCells l) w
theorem bdAt_below {B b : Nat} {p : Value} {bs : List Value} {w w' : World} (h : Lib.BuilderAtF 47 5 B b p bs w) (hb : Below w.heap.size w w') : Lib.BuilderAtF 47 5 B b p bs w' := by
  have hk : ∀ (k : Nat) (o : Obj), w.heap[k]? = some o → w'.heap[k]? = some o := fun k _ hk => (hb.block k (Array.getElem?_eq_some_iff.1 hk).1).trans hk
  obtain ⟨h1, v, h2, h3, h4⟩ := h
  refine ⟨h1, v, hk b _ h2, ⟨h3.1, ?_⟩, h4⟩
  rcases h3.2 with h0 | ⟨g, cap, cur, fz, hv, hg, hh, hr⟩
  · exact .inl h0
  · exact .inr ⟨g, cap, cur, fz, hv, hg, hk g _ hh, hr⟩
theorem Bd.below {B b : Nat} {l : List UInt8} {w w' : World} (h : Bd B b l w) (hb : Below w.heap.size w w') : Bd B b l w' :=
  Or.elim h (fun x => .inl (bdAt_below x hb)) (fun x => .inr (bdAt_below x hb))
theorem builder_new (w : World) {b : Nat} (hb : b = w.heap.size) : Lib.IsBuilder 47 5 b b (Lib.byteCells []) (w.alloc (.cells #[.pointer none, .slice none 0 0] 47)) := by
  subst hb
  exact .inl ⟨Nat.le_refl _, .slice none 0 0, Array.getElem?_push_size, ⟨rfl, .inl ⟨rfl, rfl⟩⟩, by simp [Value.ownBlock]⟩
theorem bd_new (w : World) : Bd w.heap.size w.heap.size [] (w.alloc (.cells #[.pointer none, .slice none 0 0] 47)) :=
  Lib.IsBuilderF.of (builder_new w rfl)
theorem bd_len (B b : Nat) (l : List UInt8) (w : World) (h : Bd B b l w) :
    Calls Tryd.prog 14 #[.pointer (some ⟨b, 0, none⟩)] w fun e w' => e = .returned (.int .i64 (l.length : Nat)) ∧ w' = w :=
  (Tryd.Builder_Len_f B b (Lib.byteCells l) w h).mono fun _ _ ⟨he, hw⟩ => ⟨by rw [he, Lib.byteCells_length], hw⟩
theorem bd_write (B b : Nat) (l s : List UInt8) (w : World) (h : Bd B b l w) (hlen : l.length + s.length ≤ 140737488355328) (hBw : B ≤ w.heap.size) :
    Calls Tryd.prog 15 #[.pointer (some ⟨b, 0, none⟩), .string (strOf s)] w fun e w' => e = .returned (.tuple #[.int .i64 (s.length : Nat), .nilIface]) ∧ Bd B b (l ++ s) w' ∧ Below B w w' := by
  have hz : (strOf s).size = s.length := L.strOf_size s
  refine (Any.Builder_WriteString_k lays166 extra166 B b (Lib.byteCells l) (strOf s) w h (by rw [Lib.byteCells_length, hz]; exact hlen) hBw).mono fun _ _ ⟨he, hd, hb, _⟩ => ⟨by rw [he, hz], .inr ?_, hb⟩
  have e : Lib.byteCells l ++ Lib.strCells (strOf s) = Lib.byteCells (l ++ s) := by
    simp [Lib.byteCells, Lib.strCells, L.strOf]
  rw [e] at hd
  exact hd
theorem bd_string (B b : Nat) (l : List UInt8) (w : World) (h : Bd B b l w) (hBw : B ≤ w.heap.size) :
    Calls Tryd.prog 16 #[.pointer (some ⟨b, 0, none⟩)] w fun e w' => e = .returned (.string (strOf l)) ∧ Below B w w' :=
  (Tryd.Builder_String_any_k B b l w h hBw).mono fun _ _ h => ⟨h.1, h.2.2.1⟩
end Go.Proofs.YtdphpfffofeklaaDoor.P
