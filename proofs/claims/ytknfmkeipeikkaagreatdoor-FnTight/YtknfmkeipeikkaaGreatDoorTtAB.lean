import Derived.Test.YtknfmkeipeikkaaGreatDoorTtJK
import Derived.Test.YtknfmkeipeikkaaGreatDoorTxA
import Derived.Test.YtknfmkeipeikkaaGreatDoorTgBp
import Derived.Test.YtknfmkeipeikkaaGreatDoorTgONp
import Derived.Test.YtknfmkeipeikkaaGreatDoorQQp
import Derived.Deep.RegionHeld3
namespace Go.Proofs.YtknfmkeipeikkaaGreatDoor.L
open Go.ChangeShapes Go.WideShapes Go.ChangeAt Go.RowKit
/-- A small number's text is short. -/
theorem text_short {x : Int} {u : ByteArray} {K : Nat} (h : IsText x u) (hx : x.natAbs < 10 ^ K) : u.size ≤ K + 1 := by
  obtain ⟨neg, t, ok, tr, e, rfl⟩ := h
  unfold textT
  by_cases h0 : t.length = 0
  · rw [if_pos h0, strB_size]; simp
  · rw [if_neg h0]
    have hne : t ≠ [] := fun e => h0 (by rw [e]; rfl)
    have hd := digits_len t ok tr hne K
    rw [← e, sg_abs] at hx
    unfold textS
    split
    · rw [strB_size]; exact Nat.zero_le _
    · split
      · rw [strB_size, List.length_cons]
        generalize 10 ^ K = P at *
        omega
      · rw [strB_size]
        generalize 10 ^ K = P at *
        omega
theorem l1TextN_any (B : Nat) (z : Value) (x : Int) (n : Nat) (w : World) (hBw : B ≤ w.heap.size) (h : NumZ B w z x n) (hn : n ≤ 200) :
    Calls Tryz.prog 41 #[z] w fun e w' => ∃ u, e = .returned (.string u) ∧ IsText x u ∧ Below w.heap.size w w' := by
  obtain ⟨neg, t, h1, h2, h3⟩ := h
  refine (l1Text_any B z neg t w h1 hBw (by omega)).mono ?_
  rintro e w' ⟨rfl, hb⟩
  exact ⟨_, rfl, ⟨neg, t, h1.1, h1.2.1, h2, fullT_text _ _ (by omega)⟩, hb⟩
set_option maxRecDepth 100000 in
set_option maxHeartbeats 1000000 in
theorem l12Signed_any (x : Int) (w : World) (h1 : -1000000000000000 < x) (h2 : x < 1000000000000000) :
    Calls Tryz.prog 79 #[.int .i64 x] w fun e w' => ∃ u, e = .returned (.string u) ∧ IsText x u ∧ Below w.heap.size w w' := by
  go_enter Tryz.func79, Tryz.ntmps79
  go_wp2_with fail
  refine (l1Small_any x _ (by omega) (by omega)).mono ?_
  rintro e w1 ⟨z, rfl, hz, hb⟩
  have HZ := hidG hz
  have HB := hidG hb
  clear hz hb
  go_wp2_with fail
  refine (l1TextN_any _ _ x 3 _ HB.out.size HZ.out (by decide)).mono ?_
  rintro e w2 ⟨u, rfl, hu, hb2⟩
  have HU := hidG hu
  have HB2 := hidG (HB.out.trans (hb2.mono HB.out.size))
  clear hu hb2
  go_wp2_with fail
  go_ret
  exact ⟨u, rfl, HU.out, HB2.out⟩
set_option maxRecDepth 100000 in
theorem l12Mod_any (n : Nat) (w : World) (hn : n ≤ 1000) :
    Calls Tryz.prog 80 #[.int .i64 (n : Nat)] w fun e w' => ∃ r : Nat, e = .returned (.int .i64 (r : Nat)) ∧ r < 3 ∧ w = w' := by
  go_enter Tryz.func80, Tryz.ntmps80
  go_wp2
  go_ret
  exact ⟨n % 3, ret_int (by push_cast; rfl), Nat.mod_lt _ (by decide), rfl⟩
/-- Bytes that came in. -/
def CodeArg (w : World) (a : Option Addr) (n cap : Nat) : Prop := n ≤ cap ∧ cap ≤ maxLen ∧ ∀ i, i < n → ∃ b off v : Nat, a = some ⟨b, off, none⟩ ∧ b < w.heap.size ∧ v < 256 ∧ w.cell? ⟨b, off + i, none⟩ = some (.int .u8 v)
theorem CodeArg.below {w w' : World} {a : Option Addr} {n cap : Nat} (h : CodeArg w a n cap) (hb : Below w.heap.size w w') : CodeArg w' a n cap :=
  ⟨h.1, h.2.1, fun i hi => by
    obtain ⟨b, off, v, e, h1, h2, h3⟩ := h.2.2 i hi
    exact ⟨b, off, v, e, Nat.lt_of_lt_of_le h1 hb.size, h2, (hb.cell (p := ⟨b, off + i, none⟩) h1).trans h3⟩⟩
theorem cur_new {w : World} {a : Option Addr} {n cap : Nat} (h : CodeArg w a n cap) (ty : TypeId) (at0 sd : Nat) (hsd : sd < 18446744073709551616) : IsCur w.heap.size (w.heap.size + 1) (w.alloc (.cells #[.slice a n cap, .int .i64 (at0 : Nat), .int .u64 (sd : Nat)] ty)) at0 := by
  refine ⟨Nat.lt_succ_self _, by rw [World.size_alloc]; exact Nat.le_refl _, a, n, cap, sd, bx_new w _ ty, hsd, h.1, h.2.1, fun i hi => ?_⟩
  obtain ⟨b, off, v, e, h1, h2, h3⟩ := h.2.2 i hi
  exact ⟨b, off, v, e, by omega, by omega, h2, ((below_alloc w _).cell (p := ⟨b, off + i, none⟩) h1).trans h3⟩
theorem own_bar {w w' : World} {base g s : Nat} {e : TypeId} {v : Value} {n : Nat} {xs : List Value} (h : w.ownsRow base e s v n xs) (hb : Bar g w w') (hg : g < base) : w'.ownsRow base e s v n xs :=
  h.kept hb.grownBy (.inr (fun e => by have := (h.lt g e).1; omega))
theorem OutR.bar {base g : Nat} {W W' : World} {v : Value} {F : List Lr} {A : List Value} (h : OutR base W v F A) (hb : Bar g W W') (hg : g < base) : OutR base W' v F A :=
  h.keep (fun b h1 h2 => hb.block b h2 (by omega))
theorem Bx.barL {g b : Nat} {W W' : World} {l : List Value} (h : Bx W b l) (hb : Bar g W W') (hg : b ≠ g) : Bx W' b l := by
  have hlt := h.lt
  obtain ⟨t, h⟩ := h
  exact ⟨t, (hb.block b hlt hg).trans h⟩
/-- Small whole numbers in a row. -/
def Ats (base : Nat) (W : World) (v : Value) (X : List Int) : Prop := W.ownsRow base 3 1 v X.length (X.map (Value.int .i64)) ∧ ∀ x ∈ X, -4 ≤ x ∧ x ≤ 4
theorem Ats.bar {base g : Nat} {W W' : World} {v : Value} {X : List Int} (h : Ats base W v X) (hb : Bar g W W') (hg : g < base) : Ats base W' v X := ⟨own_bar h.1 hb hg, h.2⟩
theorem info_int : ∃ i : TypeInfo, Tryz.prog.info? 3 = some i ∧ i.zero = some (.int .i64 0) ∧ i.size = 1 ∧ i.bytes = 8 := by
  obtain ⟨i, h0, h1, h2, h3⟩ := info_parts (show (Tryz.prog.info? 3).map (fun i => (i.zero, i.size, i.bytes)) = some (some (.int .i64 0), 1, 8) by kernel_rfl)
  exact ⟨i, h0, h1, h2, h3⟩
/-- A number of the specification's that comes back, of a small value. -/
def ZRet (x : Int) (w : World) (e : Ending) (w' : World) : Prop := ∃ (z0 : Int) (zn : Bool) (za : Option Addr) (zl zc : Nat), e = .returned (.agg #[.int .i64 z0, .bool zn, .slice za zl zc]) ∧ NumZ 0 w' (.agg #[.int .i64 z0, .bool zn, .slice za zl zc]) x 3 ∧ Below w.heap.size w w'
theorem zret_of {x : Int} {z : Value} {B : Nat} {w w' : World} (h : IsN B w' z x) (hx : x.natAbs < 1000000000 ^ 3) (hb : Below w.heap.size w w') : ZRet x w (.returned z) w' := by
  obtain ⟨z0, zn, za, zl, zc, rfl⟩ := h.shape
  exact ⟨z0, zn, za, zl, zc, rfl, (numZ_of h hx).mono (Nat.zero_le _), hb⟩
theorem l1ReadZ_any (t : List UInt8) (w : World) (hi : isIntB (strOf t) = true) (hx : (numT (strOf t)).natAbs < 1000000000 ^ 3) :
    Calls Tryz.prog 49 #[.string (strOf t)] w (ZRet (numT (strOf t)) w) := by
  refine (l1Read_any _ w hi).mono ?_
  rintro e w' ⟨z, rfl, hz, hb⟩
  exact zret_of ⟨_, _, hz, rfl⟩ hx hb
theorem l1SmallZ_any (x : Int) (w : World) (h1 : -1000000000000000 < x) (h2 : x < 1000000000000000) :
    Calls Tryz.prog 21 #[.int .i64 x] w (ZRet x w) := by
  refine (l1Small_any x w (by omega) (by omega)).mono ?_
  rintro e w' ⟨z, rfl, hz, hb⟩
  exact zret_of (numZ_isN hz) (by have : (1000000000 : Nat) ^ 3 = 1000000000000000000000000000 := by decide
                                  omega) hb
theorem l1MulZ_any (za zb : Value) (x y : Int) (w : World) (ha : NumZ 0 w za x 3) (hb : NumZ 0 w zb y 3) (hx : (x * y).natAbs < 1000000000 ^ 3) :
    Calls Tryz.prog 78 #[za, zb] w (ZRet (x * y) w) := by
  refine (l1MulN_any 0 za zb x y 3 3 w (Nat.zero_le _) ha hb (by decide) (by decide)).mono ?_
  rintro e w' ⟨z, rfl, hz, hb⟩
  exact zret_of hz hx hb
theorem l1AddZ_any (za zb : Value) (x y : Int) (w : World) (ha : NumZ 0 w za x 3) (hb : NumZ 0 w zb y 3) (hx : (x + y).natAbs < 1000000000 ^ 3) :
    Calls Tryz.prog 77 #[za, zb] w (ZRet (x + y) w) := by
  refine (l1AddN_any 0 za zb x y 3 3 w (Nat.zero_le _) ha hb (by decide) (by decide)).mono ?_
  rintro e w' ⟨z, rfl, hz, hb⟩
  exact zret_of hz hx hb
theorem l1SubZ_any (za zb : Value) (x y : Int) (w : World) (ha : NumZ 0 w za x 3) (hb : NumZ 0 w zb y 3) (hx : (x - y).natAbs < 1000000000 ^ 3) :
    Calls Tryz.prog 71 #[za, zb] w (ZRet (x - y) w) := by
  obtain ⟨n1, t1, k1, rfl, k3⟩ := ha
  obtain ⟨n2, t2, m1, rfl, m3⟩ := hb
  refine (l1Sub_any 0 za zb n1 n2 t1 t2 w (Nat.zero_le _) k1 m1 (by omega) (by omega)).mono ?_
  rintro e w' ⟨z, rfl, hz, hb⟩
  exact zret_of hz hx hb
theorem l1MinusZ_any (z : Value) (x : Int) (w : World) (h : NumZ 0 w z x 3) (hx : x.natAbs < 1000000000 ^ 3) :
    Calls Tryz.prog 43 #[z] w (ZRet (-x) w) := by
  obtain ⟨n1, t1, k1, k2, k3⟩ := h
  refine (l1Minus_any 0 z n1 t1 w k1).mono ?_
  rintro e w' ⟨z, rfl, hz, hb⟩
  exact zret_of ⟨_, _, hz, by rw [sg_not, k2]⟩ (by rw [Int.natAbs_neg]; exact hx) hb
theorem but_bar {g N k : Nat} {W W' : World} (h : IsCur g N W k) (hb : Bar g W W') : But g W W' := by
  obtain ⟨_, _, a, n, cap, sd, hx, _⟩ := h
  exact ⟨hb.size, fun b h1 h2 => hb.block b h1 h2, bx_noInt hx (by simp)⟩
theorem below_then {w3 W W' : World} (h : Below w3.heap.size w3 W) (h' : Below W.heap.size W W') : Below w3.heap.size w3 W' := h.trans (h'.mono h.size)
theorem zx_nd {W w' : World} {ty : TypeId} (h : Below (W.alloc (.cells #[.int .i64 0, .bool false, .slice none 0 0] ty)).drew.heap.size (W.alloc (.cells #[.int .i64 0, .bool false, .slice none 0 0] ty)).drew w') : Bx w' W.heap.size [.int .i64 0, .bool false, .slice none 0 0] := by
  have h1 : Bx (W.alloc (.cells #[.int .i64 0, .bool false, .slice none 0 0] ty)).drew W.heap.size [.int .i64 0, .bool false, .slice none 0 0] := by obtain ⟨t, h⟩ := bx_new W [.int .i64 0, .bool false, .slice none 0 0] ty; exact ⟨t, h⟩
  exact h1.below h1.lt h
theorem zx_na {W w' : World} {ty : TypeId} (h : Below (W.alloc (.cells #[.int .i64 0, .bool false, .slice none 0 0] ty)).heap.size (W.alloc (.cells #[.int .i64 0, .bool false, .slice none 0 0] ty)) w') : Bx w' W.heap.size [.int .i64 0, .bool false, .slice none 0 0] := (bx_new W [.int .i64 0, .bool false, .slice none 0 0] ty).below (bx_new W [.int .i64 0, .bool false, .slice none 0 0] ty).lt h
/-- A number in a box of its own. -/
def ZBox (wi : World) (G : Nat) (x : Int) (W : World) : Prop := ∃ (z0 : Int) (zn : Bool) (za : Option Addr) (zl zc : Nat), Bx W G [.int .i64 z0, .bool zn, .slice za zl zc] ∧ NumZ 0 W (.agg #[.int .i64 z0, .bool zn, .slice za zl zc]) x 3 ∧ wi.heap.size ≤ G ∧ Below wi.heap.size wi W
theorem zbox_new {wi W : World} {z0 : Int} {zn : Bool} {za : Option Addr} {zl zc : Nat} {x : Int} {ty : TypeId} (h : NumZ 0 W (.agg #[.int .i64 z0, .bool zn, .slice za zl zc]) x 3) (hb : Below wi.heap.size wi W) : ZBox wi W.heap.size x (W.alloc (.cells #[.int .i64 z0, .bool zn, .slice za zl zc] ty)) :=
  ⟨z0, zn, za, zl, zc, bx_new W _ _, h.below (below_alloc _ _), hb.size, up_alloc hb _⟩
theorem zbox_set {wi W : World} {G : Nat} {z0 : Int} {zn : Bool} {za : Option Addr} {zl zc : Nat} {x : Int} (hx : Bx W G [.int .i64 0, .bool false, .slice none 0 0]) (h : NumZ 0 W (.agg #[.int .i64 z0, .bool zn, .slice za zl zc]) x 3) (hb : Below wi.heap.size wi W) (hG : wi.heap.size ≤ G) : ZBox wi G x (((W.setCell ⟨G, 0, none⟩ (.int .i64 z0)).setCell ⟨G, 1, none⟩ (.bool zn)).setCell ⟨G, 2, none⟩ (.slice za zl zc)) :=
  ⟨z0, zn, za, zl, zc, ((hx.set 0 _).set 1 _).set 2 _, numZ_but h (But.three (bx_noInt hx (by simp)) _ _ _), hG, ((hb.setCell (p := ⟨G, 0, none⟩) hG _).setCell (p := ⟨G, 1, none⟩) hG _).setCell (p := ⟨G, 2, none⟩) hG _⟩
theorem low3 {wi W : World} {G : Nat} (hb : Below wi.heap.size wi W) (hG : wi.heap.size ≤ G) (u0 u1 u2 : Value) : Below wi.heap.size wi (((W.setCell ⟨G, 0, none⟩ u0).setCell ⟨G, 1, none⟩ u1).setCell ⟨G, 2, none⟩ u2) := ((hb.setCell (p := ⟨G, 0, none⟩) hG _).setCell (p := ⟨G, 1, none⟩) hG _).setCell (p := ⟨G, 2, none⟩) hG _
theorem takeD {P : Program} {ops : Array Oper} {Q : Exit → Act → World → Prop} {md : Region.Mode} {S : World → Prop} {i d : Nat} {oi : Oper} {v : Value} {fuel : Nat} {listed : Array Bool} {a : Act} {w : World} (hi : ops[i]? = some oi) (hd : oi.dst = some d)
    (hs : Region.noSelect ops = true) (hf : Region.free md ops listed i = true) (hr : (Region.ready md ops listed).contains i = true)
    (hQ : ∀ c a w, Q (.panic c) (a.put (some d) v) w → Q (.panic c) a w) (hy : YieldsIf P ops S oi v a) (hS : S w)
    (h : wpAnyH P md ops Q S fuel (listed.setIfInBounds i true) (a.put (some d) v) w) : wpAnyH P md ops Q S (fuel + 1) listed a w := by
  rw [← hd] at hQ h
  exact wpAnyH_take hi hs hf hr hQ hy hS h
theorem tk {P : Program} {ops : Array Oper} {Q : Exit → Act → World → Prop} {md : Region.Mode} {S : World → Prop} (i d : Nat) {oi : Oper} {v : Value} {fuel : Nat} {listed : Array Bool} {a : Act} {w : World} (hi : ops[i]? = some oi) (hd : oi.dst = some d)
    (hc : (Region.noSelect ops && (Region.free md ops listed i && (Region.ready md ops listed).contains i)) = true) (hQ : ∀ c a w, Q (.panic c) (a.put (some d) v) w → Q (.panic c) a w) (hy : YieldsIf P ops S oi v a) (hS : S w)
    (h : wpAnyH P md ops Q S fuel (listed.setIfInBounds i true) (a.put (some d) v) w) : wpAnyH P md ops Q S (fuel + 1) listed a w := by
  rw [Bool.and_eq_true, Bool.and_eq_true] at hc
  exact takeD hi hd hc.1 hc.2.1 hc.2.2 hQ hy hS h
theorem wrh {P : Program} {ops : Array Oper} {Q : Exit → Act → World → Prop} {S : World → Prop} (n : Nat) (hn : ops.size = n) {id : Nat} {a : Act} {w : World} (hm : P.follows .mixedOrders = true) (hS : S w.drew) (h : S w.drew → wpAnyH P .any ops Q S n (Array.replicate ops.size false) a w.drew) : (Code.region id ops true).wp P Q a w := by
  subst hn
  exact wp_region_held_drew hm hS h
theorem tkf {P : Program} {ops : Array Oper} {Q : Exit → Act → World → Prop} {md : Region.Mode} {S : World → Prop} (k m : Nat) {fuel : Nat} {oi : Oper} {v : Value} {listed : Array Bool} {a : Act} {w : World} (hi : ops[k - fuel]? = some oi) (hd : oi.dst = some (m - fuel))
    (hc : (Region.noSelect ops && (Region.free md ops listed (k - fuel) && (Region.ready md ops listed).contains (k - fuel))) = true) (hQ : ∀ c a w, Q (.panic c) (a.put (some (m - fuel)) v) w → Q (.panic c) a w) (hy : YieldsIf P ops S oi v a) (hS : S w)
    (h : wpAnyH P md ops Q S fuel (listed.setIfInBounds (k - fuel) true) (a.put (some (m - fuel)) v) w) : wpAnyH P md ops Q S (fuel + 1) listed a w := tk (k - fuel) (m - fuel) hi hd hc hQ hy hS h
end Go.Proofs.YtknfmkeipeikkaaGreatDoor.L
