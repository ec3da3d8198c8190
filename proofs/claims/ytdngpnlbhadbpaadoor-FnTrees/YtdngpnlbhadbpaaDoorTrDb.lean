import Derived.Test.YtdngpnlbhadbpaaDoorTrDa
import Derived.Test.YtdngpnlbhadbpaaDoorTkO
namespace Go.Proofs.YtdngpnlbhadbpaaDoor
open Go.ChangeShapes Go.WideShapes Go.ChangeAt Go.RowKit
def SmN (ns : List (Nd × Int)) : Prop := ∀ x ∈ ns, x.1.text.size ≤ 10000 ∧ -1 ≤ x.1.kids ∧ x.1.kids ≤ 10
theorem SmN.snoc {ns : List (Nd × Int)} (h : SmN ns) {x : Nd × Int} (h1 : x.1.text.size ≤ 10000) (h2 : -1 ≤ x.1.kids ∧ x.1.kids ≤ 10) : SmN (ns ++ [x]) := fun y hy => by
  rcases List.mem_append.1 hy with hy | hy
  · exact h y hy
  · rw [List.mem_singleton.1 hy]; exact ⟨h1, h2⟩
theorem SmN.nil : SmN [] := fun x hx => by simp at hx
set_option maxRecDepth 100000 in
set_option maxHeartbeats 4000000 in
theorem deep_any (g N k : Nat) (w : World) (h : IsCur g N w k) (hk : k ≤ 1000000000) :
    Calls Tryd.prog 31 #[.pointer (some ⟨g, 0, none⟩)] w fun e w' => ∃ (v : Value) (ns : List (Nd × Int)) (k' : Nat), e = .returned v ∧ w'.ownsRow w.heap.size 31 4 v ns.length (cellsN ns) ∧ SmN ns ∧ ns.length ≤ 400 ∧ k' ≤ k + 2 ∧ IsCur g N w' k' ∧ Bar g w w' := by
  have HC := hidG h
  clear h
  go_enter Tryd.func31, Tryd.ntmps31
  go_wp2_with fail
  refine (pickX_any g N k 3 _ _ HC.out rfl (by omega) (by decide) (by decide)).mono ?_
  rintro e w1 ⟨r, k1, rfl, hr, hk1, hc1, hb1⟩
  have HC1 := hidG hc1
  have HB1 := hidG hb1
  clear hc1 hb1
  go_wp2_with fail
  go_loopw [3, 5] (fun ov iv wr => ∃ (i : Nat) (ns : List (Nd × Int)), 1 ≤ i ∧ i ≤ 199 + r ∧ iv = .int .i64 (i : Nat) ∧ ns.length + 1 = i ∧ SmN ns ∧ wr.ownsRow w.heap.size 31 4 ov ns.length (cellsN ns) ∧ IsCur g N wr k1 ∧ Bar g w wr) (fun _ iv _ => 400 - (intOf iv).toNat)
  case atStart => exact ⟨1, [], by omega, by omega, rfl, rfl, SmN.nil, World.ownsRow_nil _ _ _ _, HC1.out, HB1.out⟩
  case round =>
    obtain ⟨i, ns, hi1, hi2, rfl, hl, hsm, ho, hc, hb⟩ := hrel
    have HO := hidG ho
    have HCC := hidG hc
    have HB := hidG hb
    have HSM := hidG hsm
    have hsz := hb.size
    have HL := hidG hl
    have hl4 : ns.length ≤ 300 := by omega
    obtain ⟨p, cp, rfl⟩ := own_shape ho
    clear ho hc hb hsm hl
    by_cases hlt : i < 199 + r
    · go_wp2_with (at_builtin; refine wpList_appN (n := ns.length) (base := w.heap.size) (xs := cellsN ns) (x := (⟨1, ⟨#[]⟩, 1⟩, 0)) rfl _ _ rfl rfl ?own _ rfl ?hH ?hn ?hb ?_)
      case own => exact HO.out
      case hH => rfl
      case hn => omega
      case hb => exact hsz
      intro g4 c4 w4 hown4 hgr4
      have hbe : Below w.heap.size wr w4 := ((Below.refl _ _).alloc hsz _).grown hgr4 (by simp; omega) (fun k e => (HO.out.lt k e).1)
      have HBE := hidG hbe
      have HO4 : Hid (w4.ownsRow w.heap.size 31 4 (.slice (some ⟨g4, 0, none⟩) (ns.length + 1) c4) (ns ++ [((⟨1, ⟨#[]⟩, 1⟩ : Nd), (0 : Int))]).length (cellsN (ns ++ [((⟨1, ⟨#[]⟩, 1⟩ : Nd), (0 : Int))]))) := by
        unfold Hid; rw [List.length_append, cellsN_snoc]; exact hown4
      clear hbe hown4 hgr4
      go_wp2
      go_roundw
      case rel => exact ⟨i + 1, ns ++ [((⟨1, ⟨#[]⟩, 1⟩ : Nd), (0 : Int))], by omega, by omega, by go_num, by have := HL.out; simp; omega, HSM.out.snoc (by decide) (by decide), HO4.out, HCC.out.below (HBE.out.mono HC.out.2.1), HB.out.then HBE.out⟩
      case measure => simp [intOf]; omega
    · go_wp2_with (at_builtin; refine wpList_appN (n := ns.length) (base := w.heap.size) (xs := cellsN ns) (x := (⟨1, ⟨#[]⟩, 0⟩, 0)) rfl _ _ rfl rfl ?own _ rfl ?hH ?hn ?hb ?_)
      case own => exact HO.out
      case hH => rfl
      case hn => omega
      case hb => exact hsz
      intro g4 c4 w4 hown4 hgr4
      have hbe : Below w.heap.size wr w4 := ((Below.refl _ _).alloc hsz _).grown hgr4 (by simp; omega) (fun k e => (HO.out.lt k e).1)
      have HBE := hidG hbe
      have HO4 : Hid (w4.ownsRow w.heap.size 31 4 (.slice (some ⟨g4, 0, none⟩) (ns.length + 1) c4) (ns ++ [((⟨1, ⟨#[]⟩, 0⟩ : Nd), (0 : Int))]).length (cellsN (ns ++ [((⟨1, ⟨#[]⟩, 0⟩ : Nd), (0 : Int))]))) := by
        unfold Hid; rw [List.length_append, cellsN_snoc]; exact hown4
      clear hbe hown4 hgr4
      go_wp2
      go_ret
      exact ⟨_, ns ++ [((⟨1, ⟨#[]⟩, 0⟩ : Nd), (0 : Int))], k1, rfl, HO4.out, HSM.out.snoc (by decide) (by decide), by simp; omega, hk1, HCC.out.below (HBE.out.mono HC.out.2.1), HB.out.then HBE.out⟩
end Go.Proofs.YtdngpnlbhadbpaaDoor
