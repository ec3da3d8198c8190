import Derived.Test.YtpimiboiogfhbaaBack
import Derived.Test.YtpimiboiogfhbaaAppendLimb
import Derived.Test.YtpimiboiogfhbaaM1
import Derived.Laws.IdiomStrings
import Derived.RangeFuncCalls
namespace Go.Proofs.Ytpimiboiogfhbaa
open Go.RowKit Go.Shelf
attribute [local go_sem] Oper.semAt_some
/-- The digits of limbs, nine a limb, the highest first. -/
def padN (l : List Nat) : List Nat := l.reverse.flatMap (fun x => digK x 9)
def bytesOf (l : List Nat) : List UInt8 := l.map UInt8.ofNat
def strB (l : List UInt8) : ByteArray := ⟨l.toArray⟩
/-- The text of a sign and limbs, "" where it has too many digits. -/
def textD (l : List Nat) : List UInt8 := dropZ (bytesOf (padN l))
def textS (neg : Bool) (l : List Nat) : ByteArray := if 2500 < (textD l).length then strB [] else if neg then strB (45 :: textD l) else strB (textD l)
theorem digK_length (x k : Nat) : (digK x k).length = k := by simp [digK]
theorem padN_length (l : List Nat) : (padN l).length = 9 * l.length := by
  unfold padN
  rw [List.length_flatMap]
  simp only [digK_length]
  rw [List.map_const', List.sum_replicate_nat]
  simp; omega
theorem padN_lt (l : List Nat) : ∀ x ∈ padN l, x < 256 := by
  intro x hx
  unfold padN at hx
  rw [List.mem_flatMap] at hx
  obtain ⟨y, _, hy⟩ := hx
  unfold digK at hy
  rw [List.mem_map] at hy
  obtain ⟨j, _, rfl⟩ := hy
  unfold dg
  omega
theorem padN_upto (l : List Nat) (h : okL l) : (upto (bk l h) l.length).flatMap (fun x : Lb => digK x.1.2 9) = padN l := by
  unfold padN
  have e : (upto (bk l h) l.length).map (fun x : Lb => x.1.2) = l.reverse := by
    apply List.ext_getElem
    · simp [upto]
    · intro i h1 h2
      simp only [upto, List.length_map, List.length_range] at h1
      simp only [upto, List.getElem_map, List.getElem_range, bk, List.getElem_reverse]
      rw [List.getD_eq_getElem?_getD, List.getElem?_eq_getElem (by omega)]
      rfl
  rw [← e, List.flatMap_map]
theorem cat_minus (t : List UInt8) : (⟨#[45]⟩ : ByteArray) ++ strB t = strB (45 :: t) := by
  apply ByteArray.ext
  simp [strB]
theorem strB_size (l : List UInt8) : (strB l).size = l.length := by simp [strB, ByteArray.size]
theorem conv_bytes (base : Nat) (W : World) (g n cap : Nat) (ns : List Nat) (h : W.ownsRow base 5 1 (.slice (some ⟨g, 0, none⟩) n cap) n (U8s ns)) (hlt : ∀ x ∈ ns, x < 256) (hn : ns.length = n) :
    (convert 51 9 (.slice (some ⟨g, 0, none⟩) n cap)).run Try.prog W = .ok (.string (strB (bytesOf ns))) W := by
  have hl : (bytesOf ns).length = n := by simp [bytesOf, hn]
  have := run_convert_bytes_back (P := Try.prog) W 51 9 5 ⟨g, 0, none⟩ cap (bytesOf ns) Try.underlying51 Try.underlying5 Try.underlying9 (fun j hj => by
    rw [hl] at hj
    have hj' : j < ns.length := by omega
    have := h.cells (g := g) rfl j (.int .u8 (ns[j] : Nat)) (by simp [U8s, List.getElem?_eq_getElem hj'])
    rw [this]
    have h2 := hlt ns[j] (List.getElem_mem _)
    simp only [bytesOf, List.getElem_map]
    congr 2
    rw [UInt8.toNat_ofNat_of_lt' (by simpa using h2)])
  rw [hl] at this
  exact this
end Go.Proofs.Ytpimiboiogfhbaa
