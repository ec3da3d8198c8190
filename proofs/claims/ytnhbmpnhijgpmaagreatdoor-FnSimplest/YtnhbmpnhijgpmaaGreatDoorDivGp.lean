import Derived.Test.YtnhbmpnhijgpmaaGreatDoorOfImplp
import Derived.Test.YtnhbmpnhijgpmaaGreatDoorM4p
import Derived.Test.YtnhbmpnhijgpmaaGreatDoorMulLimbsp
import Derived.Test.YtnhbmpnhijgpmaaGreatDoorM2p
set_option maxRecDepth 100000
set_option maxHeartbeats 2000000
namespace Go.Proofs.YtnhbmpnhijgpmaaGreatDoor
open Go.ChangeShapes Go.WideShapes Go.ChangeAt Go.RowKit
theorem wl_trim (n k:Nat) (h0:n / 1000000000 ^ k=0) (h1:k=0∨n / 1000000000 ^ (k - 1)≠0):isTrim (wl n k):=by
 intro i
 cases k with
 | zero=>exact absurd rfl i
 | succ k=>
   have j:n / 1000000000 ^ k≠0:=by
    rcases h1 with h|h
    ·omega
    ·rwa [Nat.add_sub_cancel] at h
   have e:(wl n (k+1)).getLast i=n / 1000000000 ^ k % 1000000000:=by simp [wl_succ]
   rw [e]; rw [Nat.pow_succ,← Nat.div_div_eq_div_mul] at h0; omega
theorem limbsOf_trim0 (n:Nat) (w:World) (hn:n<18446744073709551616) :
 Calls Tryz.prog 102 #[.int .u64 (n:Nat)] w fun e w'=>∃ v k,e=.returned v∧k≤3∧IsL w.heap.size w' v (wl n k)∧val (wl n k)=n∧(n / 1000000000 ^ k=0∧(k=0∨n / 1000000000 ^ (k - 1)≠0))∧Up w w':=by
 obtain ⟨i0,D,K,L,M⟩:=info_parts Tryz.info_u32; have O:=Hd hn; clear hn
 go_enter Tryz.func102,Tryz.ntmps102
 go_wp2
 go_loopw [0,3] (fun q v wr=>∃ k:Nat,(k≤3∧(k=0∨n / 1000000000 ^ (k - 1)≠0))∧q=.int .u64 (n / 1000000000 ^ k:Nat) ∧
  wr.ownsRow w.heap.size 85 1 v k ((wl n k).map (fun x=>Value.int .u32 (x:Nat)))∧Up w wr) (fun q _ _=>(intOf q).toNat)
 case atStart=>exact ⟨0,⟨by omega,.inl rfl⟩,val_int (by simp),World.ownsRow_nil _ _ _ _,Below.refl _ _⟩
 case round=>
  obtain ⟨k,⟨hk,E⟩,rfl,i,t⟩:=hrel; have F:=Hd E; clear E; obtain ⟨q,hq⟩:=exW (n / 1000000000 ^ k); have s:=Hd hq; rw [hq]; clear hq
  by_cases A:q=0
  ·have HV:Hid (val (wl n k)=n):=by
    unfold Hid
    have:=wl_val n k; rw [s.o,A] at this
    simpa using this
   have S:IsL w.heap.size wr u3 (wl n k):=isL_of_owns (e:=85) (by rw [wl_length]; exact i) (wl_ok n k); have Y:=Hd S; have V:=Hd t; have H:Hid (n / 1000000000 ^ k=0):=s.o.trans A; clear S i t; subst A
   go_wp2
   go_ret
   exact ⟨_,k,rfl,hk,Y.o,HV.o,⟨H.o,F.o⟩,V.o⟩
  ·have a8:k<3:=by
    apply Classical.byContradiction; intro hc; obtain rfl:k=3:=by omega
    have:=s.o; have h3:(1000000000:Nat) ^ 3=1000000000000000000000000000:=by decide
    rw [h3] at this; have:=O.o; omega
   obtain ⟨x,J⟩:∃ x:Int,(q:Int)=x:=⟨_,rfl⟩; have Q:=Hd J; rw [J]; have x0:0<x:=by omega
   have x1:x<18446744073709551616:=by
    have h1:=Nat.div_le_self n (1000000000 ^ k); rw [s.o] at h1; have:=O.o; omega
   have Z:Hid (x % 1000000000=(n / 1000000000 ^ k % 1000000000:Nat)):=by unfold Hid; rw [s.o,← Q.o]; rfl
   have W:Hid (x / 1000000000=(n / 1000000000 ^ (k+1):Nat)):=by
    unfold Hid
    rw [Nat.pow_succ,← Nat.div_div_eq_div_mul,s.o,← Q.o]; rfl
   have G:Hid (n / 1000000000 ^ k≠0):=by unfold Hid; rw [s.o]; exact A
   clear J A
   go_wp2_with (at_builtin; refine wpList_append_own _ rfl _ _ 47 rfl w.heap.size 85 i0 (.int .u32 0) 1 4 Tryz.underlying47 D K L M rfl (by decide) _ _ _ rfl (i.alloc _) ⟨wr.heap.size,0,none⟩ 1 1 [_] rfl rfl (cell_one_new _ _ _) ?c2 ?c3 ?c4 ?c5 ?_)
   case c2=>first|rfl|(intro u T; simp at T; subst T; rfl)
   case c3=>unfold maxLen; omega
   case c4=>omega
   case c5=>have:=t.size; simp; omega
   intro v' U m j _; have I:Up w U:=(t.alloc t.size _).grown j (by have:=t.size; simp; omega) (fun q hq=>(i.lt q hq).1); have HO:Hid (U.ownsRow w.heap.size 85 1 v' (k+1) ((wl n (k+1)).map (fun x=>Value.int .u32 (x:Nat)))):=by
    unfold Hid
    rw [wl_succ,List.map_append,List.map_cons,List.map_nil,← Z.o]; exact m
   clear j i t m
   go_wp2
   go_roundw
   case rel=>exact ⟨k+1,⟨by omega,.inr (by rw [Nat.add_sub_cancel]; exact G.o)⟩,val_int W.o,HO.o,I⟩
   case measure=>simp [intOf]; omega
theorem limbsOf_trim (n:Nat) (w:World) (hn:n<18446744073709551616) :
 Calls Tryz.prog 102 #[.int .u64 (n:Nat)] w fun e w'=>∃ v t,e=.returned v∧IsL w.heap.size w' v t∧isTrim t∧val t=n∧t.length≤3∧Up w w':=by
 refine (limbsOf_trim0 n w hn).mono ?_; rintro e w' ⟨v,k,rfl,u,m,A,⟨i,j⟩,s⟩; exact ⟨v,_,rfl,m,wl_trim n k i j,A,by rw [wl_length]; exact u,s⟩
structure Only (R:Nat) (w w':World):Prop where
 below:Below R w w'
 block:∀ k,k<w.heap.size→k≠R→w'.heap[k]? = w.heap[k]?
theorem Only.refl (R:Nat) (w:World):Only R w w:=⟨Below.refl _ _,fun _ _ _=>rfl⟩
theorem Only.trans {R:Nat} {a b c:World} (h:Only R a b) (k:Only R b c):Only R a c:=
 ⟨h.below.trans k.below,fun i hi hn=>(k.block i (Nat.lt_of_lt_of_le hi h.below.size) hn).trans (h.block i hi hn)⟩
theorem Only.of {R:Nat} {w w':World} (h:Up w w') (hR:R≤w.heap.size):Only R w w':=⟨h.mono hR,fun k hk _=>h.block k hk⟩
theorem Only.setCell {R:Nat} {w w':World} (h:Only R w w') (i:Nat) (u:Value):Only R w (w'.setCell ⟨R,i,none⟩ u):=
 ⟨h.below.setCell leR u,fun k hk hn=>by
  refine Eq.trans ?_ (h.block k hk hn)
  show (w'.heap.modify R _)[k]? = _
  rw [Array.getElem?_modify,if_neg (fun e=>hn e.symm)]⟩
theorem Only.cell {R:Nat} {w w':World} (h:Only R w w') {p:Addr} (hp:p.block<w.heap.size) (hn:p.block≠R):w'.cell? p=w.cell? p:=by
 unfold World.cell?; rw [h.block _ hp hn]
theorem Only.rowT {R D:Nat} {w w':World} {l:List Nat} (h:Only R w w') (hD:D≠R) (hr:RowT w D l):RowT w' D l:=by
 have i:=hr.lt; obtain ⟨t,hr⟩:=hr; exact ⟨t,(h.block D i hD).trans hr⟩
theorem drop_set' (L:List Nat) (off i x:Nat):(L.set (off+i) x).drop off=(L.drop off).set i x:=by
 rw [List.drop_set,if_neg (by omega),Nat.add_sub_cancel_left]
theorem drop_getD (A:List Nat) (off i:Nat):(A.drop off).getD i 0=A.getD (off+i) 0:=by
 rw [List.getD_eq_getElem?_getD,List.getD_eq_getElem?_getD,List.getElem?_drop]
theorem take_set' (L A:List Nat) (off i x:Nat) (h:L.take off=A.take off):(L.set (off+i) x).take off=A.take off:=by
 rw [List.take_set_of_le (by omega),h]
theorem val_seg_set (L:List Nat) (off i x:Nat) (hi:off+i<L.length):val (((L.set (off+i) x).drop off).take (i+1))=val ((L.drop off).take i)+1000000000 ^ i*x:=by
 rw [drop_set',val_take_set _ _ _ (by simp; omega)]
theorem val_seg_succ (A:List Nat) (off i:Nat):val ((A.drop off).take (i+1))=val ((A.drop off).take i)+1000000000 ^ i*A.getD (off+i) 0:=by
 rw [val_take_succ,drop_getD]
theorem subScaledAt_any (R off cap f:Nat) (pb:Option Addr) (cb:Nat) (A b:List Nat) (w:World) (hR:RowT w R A) (hAok:okL A) (hn:off+b.length≤A.length) (hA:A.length≤1000000) (hbok:okL b) (hf:f≤1000000000)
 (hcb:∀ i,i<b.length→∃ c off,pb=some ⟨c,off,none⟩∧(c<w.heap.size∧c≠R)∧w.cell? ⟨c,off+i,none⟩=some (.int .u32 (b.getD i 0:Nat))) :
 Calls Tryz.prog 118 #[.slice (some ⟨R,off,none⟩) b.length cap,.slice pb b.length cb,.int .u64 (f:Nat)] w fun e w'=>∃ c L,e=.returned (.int .u64 (c:Nat))∧RowT w' R L∧L.length=A.length∧okL L∧L.drop (off+b.length)=A.drop (off+b.length)∧L.take off=A.take off∧c≤f ∧
  val ((L.drop off).take b.length)+f*val b=val ((A.drop off).take b.length)+1000000000 ^ b.length*c∧Only R w w':=by
 have HB:=Hd hcb; clear hcb
 go_enter Tryz.func118,Tryz.ntmps118
 go_wp2
 go_loopw [7,12] (fun cv iv wr=>∃ (i c:Nat) (L:List Nat),i≤b.length∧c≤f∧L.length=A.length∧okL L∧RowT wr R L∧L.drop (off+i)=A.drop (off+i)∧L.take off=A.take off∧cv=.int .u64 (c:Nat)∧iv=.int .i64 i ∧
  val ((L.drop off).take i)+f*val (b.take i)=val ((A.drop off).take i)+1000000000 ^ i*c∧Only R w wr) (fun _ iv _=>b.length - (intOf iv).toNat)
 case atStart=>exact ⟨0,0,A,by omega,by omega,rfl,hAok,hR,rfl,rfl,rfl,rfl,by simp [val],Only.refl _ _⟩
 case round=>
  clear hR; obtain ⟨i,c,L,hi,a9,a8,s,hR,E,H,rfl,rfl,m,S⟩:=hrel; have hc:c≤1000000000:=by omega
  by_cases b7:i<b.length
  ·have D:=hR.cell (off+i) (by omega); have W:=getD_drop L A (off+i) E; have b3:=okL_getD A hAok (off+i) (by omega); rw [W] at D; clear W; obtain ⟨x,W⟩:=exW (A.getD (off+i) 0); rw [W] at b3 D; obtain ⟨bb,ob,rfl,V,hcb⟩:=HB.o i b7; rw [← S.cell (p:=⟨bb,ob+i,none⟩) V.1 V.2] at hcb; have b4:=okL_getD b hbok i b7; obtain ⟨y,hy⟩:=exW (b.getD i 0); rw [hy] at hcb b4; obtain ⟨F,hF⟩:=exW (f*y); have b6:F≤f*999999999:=by rw [← hF]; exact Nat.mul_le_mul_left f (by omega)
   obtain ⟨X,hX⟩:∃ X:Int,(x:Int)=X:=⟨_,rfl⟩; have Q:=Hd hX; have x1:0≤X:=by omega
   have x2:X<1000000000:=by omega
   rw [hX] at D; obtain ⟨C,hC⟩:∃ C:Int,(c:Int)=C:=⟨_,rfl⟩; have U:=Hd hC; have c1:0≤C:=by omega
   have c2:C≤1000000000:=by omega
   rw [hC]; obtain ⟨G,hG⟩:∃ G:Int,(f:Int)=G:=⟨_,rfl⟩; rw [hG]; obtain ⟨Y,hY⟩:∃ Y:Int,(y:Int)=Y:=⟨_,rfl⟩; have K:(F:Int)=G*Y:=by rw [← hF,← hG,← hY]; rfl
   have t:=Hd K; have g1:0≤G*Y:=by rw [← K]; omega
   have g2:G*Y≤999999999000000000:=by rw [← K]; omega
   have y1:0≤Y:=by omega
   have y2:Y<1000000000:=by omega
   rw [hY] at hcb
   by_cases T:x<(c+F) % 1000000000
   ·skip
    have M:=scaled_step (1000000000 ^ i) _ _ _ c x y (x+1000000000 - (c+F) % 1000000000) ((c+F) / 1000000000+1) f m (by rw [hF]; omega); have a7:Hid (val (((L.set (off+i) (x+1000000000 - (c+F) % 1000000000)).drop off).take (i+1))+f*val (b.take (i+1))=val ((A.drop off).take (i+1))+1000000000 ^ (i+1)*((c+F) / 1000000000+1)):=by
     unfold Hid
     rw [val_seg_set L off i _ (by omega),val_seg_succ,val_take_succ,W,hy,Nat.pow_succ]; exact M
    have c9:=hR.frozen (off+i); have a6:Hid (∀ (u:Nat) (v:Int) (hv:v=(((x+1000000000 - (c+F) % 1000000000):Nat):Int)),RowT ((wr.setCell ⟨R,off+i,none⟩ (.int .u32 (X+1000000000))).setCell ⟨R,off+i,none⟩ (.int .u32 v)) R (L.set (off+i) (x+1000000000 - (c+F) % 1000000000))):=fun u v hv=>by
     have e:X+1000000000=((x+1000000000:Nat):Int):=by have:=Q.o; omega
     have h:=(hR.set (off+i) (x+1000000000) (by omega)).set (off+i) (x+1000000000 - (c+F) % 1000000000) (by simp; omega); rw [List.set_set] at h; rw [hv,e]; exact h
    have a5:Hid (∀ v:Int,v=(((x+1000000000 - (c+F) % 1000000000):Nat):Int)→RowT (wr.setCell ⟨R,off+i,none⟩ (.int .u32 v)) R (L.set (off+i) (x+1000000000 - (c+F) % 1000000000))):=fun v hv=>by
     rw [hv]; exact hR.set (off+i) _ (by omega)
    have I:Hid (∀ u v,Only R w (wr.setCell ⟨R,off+i,none⟩ u)∧Only R w ((wr.setCell ⟨R,off+i,none⟩ u).setCell ⟨R,off+i,none⟩ v)):=fun u v=>⟨S.setCell _ u,(S.setCell _ u).setCell _ v⟩; have a3:Hid (okL (L.set (off+i) (x+1000000000 - (c+F) % 1000000000))):=okL_set L s (off+i) _ (by omega); have J:Hid ((L.set (off+i) (x+1000000000 - (c+F) % 1000000000)).drop (off+(i+1))=A.drop (off+(i+1))∧(L.set (off+i) (x+1000000000 - (c+F) % 1000000000)).take off=A.take off):=⟨drop_set_succ L A (off+i) _ E,take_set' L A off i _ H⟩; have Z:Hid (((c+F) / 1000000000+1)≤f):=by
     unfold Hid
     omega
    have t1:X<(C+G*Y) % 1000000000:=by have:=Q.o; have:=U.o; have:=t.o; omega
    have j:Hid _:=T; clear M m W hy hR S s E H hX b3 T hC hG hY K b4 hF b6 hc a9
    go_wp2
    go_roundw
    case rel=>
     refine ⟨i+1,((c+F) / 1000000000+1),L.set (off+i) (x+1000000000 - (c+F) % 1000000000),by omega,Z.o,by simp [a8],a3.o,?_,J.o.1,J.o.2,?_,by go_num,a7.o,?_⟩
     ·have O:∀ v:Int,v=(((x+1000000000 - (c+F) % 1000000000):Nat):Int)→v=(((x+1000000000 - (c+F) % 1000000000):Nat):Int):=fun _ h=>h
      first
       | exact a5.o _ (O _ (by have:=Q.o; have:=U.o; have:=j.o; have:=t.o; omega))
       | exact a6.o 0 _ (O _ (by have:=Q.o; have:=U.o; have:=j.o; have:=t.o; omega))
     ·congr 1; have:=Q.o; have:=U.o; have:=j.o; have:=t.o; omega
     ·first|exact (I.o _ (.bool true)).1|exact (I.o _ _).2
    case measure=>simp [intOf]; omega
   ·skip
    have M:=scaled_step (1000000000 ^ i) _ _ _ c x y (x - (c+F) % 1000000000) ((c+F) / 1000000000) f m (by rw [hF]; omega); have a7:Hid (val (((L.set (off+i) (x - (c+F) % 1000000000)).drop off).take (i+1))+f*val (b.take (i+1))=val ((A.drop off).take (i+1))+1000000000 ^ (i+1)*((c+F) / 1000000000)):=by
     unfold Hid
     rw [val_seg_set L off i _ (by omega),val_seg_succ,val_take_succ,W,hy,Nat.pow_succ]; exact M
    have c9:=hR.frozen (off+i); have a6:Hid (∀ (u:Nat) (v:Int) (hv:v=(((x - (c+F) % 1000000000):Nat):Int)),RowT ((wr.setCell ⟨R,off+i,none⟩ (.int .u32 (X+1000000000))).setCell ⟨R,off+i,none⟩ (.int .u32 v)) R (L.set (off+i) (x - (c+F) % 1000000000))):=fun u v hv=>by
     have e:X+1000000000=((x+1000000000:Nat):Int):=by have:=Q.o; omega
     have h:=(hR.set (off+i) (x+1000000000) (by omega)).set (off+i) (x - (c+F) % 1000000000) (by simp; omega); rw [List.set_set] at h; rw [hv,e]; exact h
    have a5:Hid (∀ v:Int,v=(((x - (c+F) % 1000000000):Nat):Int)→RowT (wr.setCell ⟨R,off+i,none⟩ (.int .u32 v)) R (L.set (off+i) (x - (c+F) % 1000000000))):=fun v hv=>by
     rw [hv]; exact hR.set (off+i) _ (by omega)
    have I:Hid (∀ u v,Only R w (wr.setCell ⟨R,off+i,none⟩ u)∧Only R w ((wr.setCell ⟨R,off+i,none⟩ u).setCell ⟨R,off+i,none⟩ v)):=fun u v=>⟨S.setCell _ u,(S.setCell _ u).setCell _ v⟩; have a3:Hid (okL (L.set (off+i) (x - (c+F) % 1000000000))):=okL_set L s (off+i) _ (by omega); have J:Hid ((L.set (off+i) (x - (c+F) % 1000000000)).drop (off+(i+1))=A.drop (off+(i+1))∧(L.set (off+i) (x - (c+F) % 1000000000)).take off=A.take off):=⟨drop_set_succ L A (off+i) _ E,take_set' L A off i _ H⟩; have Z:Hid (((c+F) / 1000000000)≤f):=by
     unfold Hid
     omega
    have t1:(C+G*Y) % 1000000000≤X:=by have:=Q.o; have:=U.o; have:=t.o; omega
    have j:Hid _:=T; clear M m W hy hR S s E H hX b3 T hC hG hY K b4 hF b6 hc a9
    go_wp2
    go_roundw
    case rel=>
     refine ⟨i+1,((c+F) / 1000000000),L.set (off+i) (x - (c+F) % 1000000000),by omega,Z.o,by simp [a8],a3.o,?_,J.o.1,J.o.2,?_,by go_num,a7.o,?_⟩
     ·have O:∀ v:Int,v=(((x - (c+F) % 1000000000):Nat):Int)→v=(((x - (c+F) % 1000000000):Nat):Int):=fun _ h=>h
      first
       | exact a5.o _ (O _ (by have:=Q.o; have:=U.o; have:=j.o; have:=t.o; omega))
       | exact a6.o 0 _ (O _ (by have:=Q.o; have:=U.o; have:=j.o; have:=t.o; omega))
     ·congr 1; have:=Q.o; have:=U.o; have:=j.o; have:=t.o; omega
     ·first|exact (I.o _ (.bool true)).1|exact (I.o _ _).2
    case measure=>simp [intOf]; omega
  ·obtain rfl:i=b.length:=by omega
   rw [List.take_of_length_le (Nat.le_refl b.length)] at m; have HE:Hid (RowT wr R L∧L.length=A.length∧okL L∧L.drop (off+b.length)=A.drop (off+b.length)∧L.take off=A.take off∧val ((L.drop off).take b.length)+f*val b=val ((A.drop off).take b.length)+1000000000 ^ b.length*c∧Only R w wr):=⟨hR,a8,s,E,H,m,S⟩; clear m hR S s E H
   go_wp2
   go_ret
   obtain ⟨e1,e2,e3,e4,e5,e6,e7⟩:=HE.o; exact ⟨c,L,rfl,e1,e2,e3,e4,e5,a9,e6,e7⟩
theorem addIntoAt_any (R off cap:Nat) (pb:Option Addr) (cb:Nat) (A b:List Nat) (w:World) (hR:RowT w R A) (hAok:okL A) (hn:off+b.length≤A.length) (hA:A.length≤1000000) (hbok:okL b)
 (hcb:∀ i,i<b.length→∃ c off,pb=some ⟨c,off,none⟩∧(c<w.heap.size∧c≠R)∧w.cell? ⟨c,off+i,none⟩=some (.int .u32 (b.getD i 0:Nat))) :
 Calls Tryz.prog 116 #[.slice (some ⟨R,off,none⟩) b.length cap,.slice pb b.length cb] w fun e w'=>∃ c L,e=.returned (.int .u32 (c:Nat))∧RowT w' R L∧L.length=A.length∧okL L∧L.drop (off+b.length)=A.drop (off+b.length)∧L.take off=A.take off∧c≤1 ∧
  val ((L.drop off).take b.length)+1000000000 ^ b.length*c=val ((A.drop off).take b.length)+val b∧Only R w w':=by
 have HB:=Hd hcb; clear hcb
 go_enter Tryz.func116,Tryz.ntmps116
 go_wp2
 go_loopw [5,10] (fun cv iv wr=>∃ (i c:Nat) (L:List Nat),i≤b.length∧c≤1∧L.length=A.length∧okL L∧RowT wr R L∧L.drop (off+i)=A.drop (off+i)∧L.take off=A.take off∧cv=.int .u32 (c:Nat)∧iv=.int .i64 i ∧
  val ((L.drop off).take i)+1000000000 ^ i*c=val ((A.drop off).take i)+val (b.take i)∧Only R w wr) (fun _ iv _=>b.length - (intOf iv).toNat)
 case atStart=>exact ⟨0,0,A,by omega,by omega,rfl,hAok,hR,rfl,rfl,rfl,rfl,by simp [val],Only.refl _ _⟩
 case round=>
  clear hR; obtain ⟨i,c,L,hi,hc,T,m,hR,t,D,rfl,rfl,j,S⟩:=hrel
  by_cases W:i<b.length
  ·have s:=hR.cell (off+i) (by omega); have J:=getD_drop L A (off+i) t; have U:=okL_getD A hAok (off+i) (by omega); rw [J] at s; clear J; obtain ⟨x,J⟩:=exW (A.getD (off+i) 0); rw [J] at U s; obtain ⟨bb,ob,rfl,I,hcb⟩:=HB.o i W; rw [← S.cell (p:=⟨bb,ob+i,none⟩) I.1 I.2] at hcb; have V:=okL_getD b hbok i W; obtain ⟨y,Z⟩:=exW (b.getD i 0); rw [Z] at hcb V; obtain ⟨X,hX⟩:∃ X:Int,(x:Int)=X:=⟨_,rfl⟩; have HX:=Hd hX; have x1:0≤X:=by omega
   have x2:X<1000000000:=by omega
   rw [hX] at s; obtain ⟨C,hC⟩:∃ C:Int,(c:Int)=C:=⟨_,rfl⟩; have HC:=Hd hC; have c1:0≤C:=by omega
   have c2:C≤1:=by omega
   rw [hC]; obtain ⟨Y,hY⟩:∃ Y:Int,(y:Int)=Y:=⟨_,rfl⟩; have HY:=Hd hY; have y1:0≤Y:=by omega
   have y2:Y<1000000000:=by omega
   rw [hY] at hcb
   by_cases H:1000000000≤x+c+y
   ·skip
    have G:=into_step (1000000000 ^ i) _ _ _ c x y (x+c+y - 1000000000) 1 j (by omega); have Q:Hid (val (((L.set (off+i) (x+c+y - 1000000000)).drop off).take (i+1))+1000000000 ^ (i+1)*1=val ((A.drop off).take (i+1))+val (b.take (i+1))):=by
     unfold Hid
     rw [val_seg_set L off i _ (by omega),val_seg_succ,val_take_succ,J,Z,Nat.pow_succ]; exact G
    have b3:=hR.frozen (off+i); have O:Hid (∀ v:Int,v=(((x+c+y - 1000000000):Nat):Int)→RowT (wr.setCell ⟨R,off+i,none⟩ (.int .u32 v)) R (L.set (off+i) (x+c+y - 1000000000))):=fun v hv=>by
     rw [hv]; exact hR.set (off+i) _ (by omega)
    have K:Hid (∀ u,Only R w (wr.setCell ⟨R,off+i,none⟩ u)):=fun u=>S.setCell _ u; have M:Hid (okL (L.set (off+i) (x+c+y - 1000000000))):=okL_set L m (off+i) _ (by omega); have E:Hid ((L.set (off+i) (x+c+y - 1000000000)).drop (off+(i+1))=A.drop (off+(i+1))∧(L.set (off+i) (x+c+y - 1000000000)).take off=A.take off):=⟨drop_set_succ L A (off+i) _ t,take_set' L A off i _ D⟩; have t1:1000000000≤X+C+Y:=by have:=HX.o; have:=HC.o; have:=HY.o; omega
    have F:Hid _:=H; clear G j J Z hR S m t D hX U H hC hY V
    go_wp2
    go_roundw
    case rel=>exact ⟨i+1,1,L.set (off+i) (x+c+y - 1000000000),by omega,by omega,by simp [T],M.o,O.o _ (by have:=F.o; have:=HX.o; have:=HC.o; have:=HY.o; omega),E.o.1,E.o.2,rfl,by go_num,Q.o,K.o _⟩
    case measure=>simp [intOf]; omega
   ·skip
    have G:=into_step (1000000000 ^ i) _ _ _ c x y (x+c+y) 0 j (by omega); have Q:Hid (val (((L.set (off+i) (x+c+y)).drop off).take (i+1))+1000000000 ^ (i+1)*0=val ((A.drop off).take (i+1))+val (b.take (i+1))):=by
     unfold Hid
     rw [val_seg_set L off i _ (by omega),val_seg_succ,val_take_succ,J,Z,Nat.pow_succ]; exact G
    have b3:=hR.frozen (off+i); have O:Hid (∀ v:Int,v=(((x+c+y):Nat):Int)→RowT (wr.setCell ⟨R,off+i,none⟩ (.int .u32 v)) R (L.set (off+i) (x+c+y))):=fun v hv=>by
     rw [hv]; exact hR.set (off+i) _ (by omega)
    have K:Hid (∀ u,Only R w (wr.setCell ⟨R,off+i,none⟩ u)):=fun u=>S.setCell _ u; have M:Hid (okL (L.set (off+i) (x+c+y))):=okL_set L m (off+i) _ (by omega); have E:Hid ((L.set (off+i) (x+c+y)).drop (off+(i+1))=A.drop (off+(i+1))∧(L.set (off+i) (x+c+y)).take off=A.take off):=⟨drop_set_succ L A (off+i) _ t,take_set' L A off i _ D⟩; have t1:X+C+Y<1000000000:=by have:=HX.o; have:=HC.o; have:=HY.o; omega
    have F:Hid _:=H; clear G j J Z hR S m t D hX U H hC hY V
    go_wp2
    go_roundw
    case rel=>exact ⟨i+1,0,L.set (off+i) (x+c+y),by omega,by omega,by simp [T],M.o,O.o _ (by have:=F.o; have:=HX.o; have:=HC.o; have:=HY.o; omega),E.o.1,E.o.2,rfl,by go_num,Q.o,K.o _⟩
    case measure=>simp [intOf]; omega
  ·obtain rfl:i=b.length:=by omega
   rw [List.take_of_length_le (Nat.le_refl b.length)] at j; have HE:Hid (RowT wr R L∧L.length=A.length∧okL L∧L.drop (off+b.length)=A.drop (off+b.length)∧L.take off=A.take off∧val ((L.drop off).take b.length)+1000000000 ^ b.length*c=val ((A.drop off).take b.length)+val b∧Only R w wr):=⟨hR,T,m,t,D,j,S⟩; clear j hR S m t D
   go_wp2
   go_ret
   obtain ⟨e1,e2,e3,e4,e5,e6,e7⟩:=HE.o; exact ⟨c,L,rfl,e1,e2,e3,e4,e5,hc,e6,e7⟩
theorem muld_step (P VL VN c m x Va d c' F:Nat) (h:VL+P*c=Va*m) (hs:VN+P*0=VL+P*d) (hF:x*m=F) (hd:d+1000000000*c'=F+c):VN+P*1000000000*c'=(Va+P*x)*m:=by
 have i:P*(d+1000000000*c')=P*(F+c):=by rw [hd]
 have j:(Va+P*x)*m=Va*m+P*(x*m):=by grind
 rw [j,← h,hF]; rw [Nat.mul_add,Nat.mul_add,← Nat.mul_assoc] at i; omega
theorem l1MulD_any (B:Nat) (va:Value) (a:List Nat) (m:Nat) (w:World) (ha:IsL B w va a) (hla:a.length≤100000) (hm:m<1000000000) :
 Calls Tryz.prog 92 #[va,.int .u64 (m:Nat)] w fun e w'=>∃ v L,e=.returned v∧IsL w.heap.size w' v L∧isTrim L∧val L=val a*m∧L.length≤a.length+1∧Up w w':=by
 obtain ⟨i0,b3,d5,d6,d7⟩:=info_parts Tryz.info_u32; obtain ⟨pa,ca,rfl,_⟩:=id ha; obtain ⟨_,_,_,a6,H⟩:=ha.cells; have HA:=Hd H; clear H ha
 go_enter Tryz.func92,Tryz.ntmps92
 go_wp2_with (at_make; refine wpList_make_full _ rfl _ _ 47 rfl w.heap.size 85 i0 (.int .u32 0) 1 Tryz.underlying47 b3 d5 d6 .i64 .i64 _ _ (a.length+1) rfl rfl (by first|rfl|omega) (by first|rfl|omega) (by first|omega|(rw [d7]; omega)) (by unfold maxLen; omega) leR ?_)
 intro w1 A a8
 first|rw [made_zero] at A|rw [made_zero'] at A
 have K:RowT w1 w.heap.size (List.replicate (a.length+1) 0):=(row_of_full A).tail; have a3:Up w w1:=(Below.refl _ _).grown a8 leR (fun k h=>by cases h); clear A a8
 go_wp2
 go_loopw [6,16] (fun cv iv wr=>∃ (i c:Nat) (L:List Nat),i≤a.length∧c≤m∧L.length=a.length+1∧okL L∧RowT wr w.heap.size L∧(∀ j,i≤j→L.getD j 0=0)∧cv=.int .u64 (c:Nat)∧iv=.int .i64 i ∧
  val L+1000000000 ^ i*c=val (a.take i)*m∧Up w wr) (fun _ iv _=>a.length - (intOf iv).toNat)
 case atStart=>exact ⟨0,0,_,by omega,by omega,by simp,fun x hx=>by rw [List.eq_of_mem_replicate hx]; omega,K,fun j hj=>by simp [List.getD_eq_getElem?_getD,List.getElem?_replicate]; split<;>rfl,rfl,rfl,by simp [val_replicate,val],a3⟩
 case round=>
  clear K a3; obtain ⟨i,c,L,hi,d4,a5,t,K,M,rfl,rfl,D,Z⟩:=hrel
  by_cases a9:i<a.length
  ·obtain ⟨ba,oa,rfl,b4,H⟩:=HA.o i a9; rw [← Z.cell (p:=⟨ba,oa+i,none⟩) b4] at H; have b5:=okL_getD a a6 i a9; have T:=val_take_succ a i; obtain ⟨x,hx⟩:=exW (a.getD i 0); rw [hx] at H b5 T; obtain ⟨F,hF⟩:=exW (x*m); have d0:F≤999999999*m:=by rw [← hF]; exact Nat.mul_le_mul_right m (by omega)
   have I:=val_set L i ((F+c) % 1000000000) (by omega); rw [M i leR] at I; have c6:Hid (val (L.set i ((F+c) % 1000000000))+1000000000 ^ (i+1)*((F+c) / 1000000000)=val (a.take (i+1))*m):=by
    unfold Hid
    rw [T,Nat.pow_succ]; exact muld_step _ _ _ c m x _ _ _ F D I hF (by omega)
   have s:=K.cell i (by omega); have a7:=K.frozen i; have E:Hid (∀ v:Int,v=(((F+c) % 1000000000:Nat):Int)→RowT (wr.setCell ⟨w.heap.size,i,none⟩ (.int .u32 v)) w.heap.size (L.set i ((F+c) % 1000000000))):=fun v hv=>by
    rw [hv]; exact K.set i _ (by omega)
   have J:Hid (∀ u,Up w (wr.setCell ⟨w.heap.size,i,none⟩ u)):=fun u=>Z.setCell leR u; have Y:Hid (okL (L.set i ((F+c) % 1000000000))∧(L.set i ((F+c) % 1000000000)).length=a.length+1):=⟨okL_set L t i _ (Nat.mod_lt _ (by decide)),by simp [a5]⟩; have HZ:Hid (∀ j,i+1≤j→(L.set i ((F+c) % 1000000000)).getD j 0=0):=fun j hj=>by
    rw [getD_set_ne _ _ _ _ (by omega)]; exact M j (by omega)
   have b8:Hid ((F+c) / 1000000000≤m):=by unfold Hid; omega
   clear D hx K Z t M I T; obtain ⟨X,hX⟩:∃ X:Int,(x:Int)=X:=⟨_,rfl⟩; have x1:0≤X:=by omega
   have x2:X<1000000000:=by omega
   rw [hX] at H; obtain ⟨C,hC⟩:∃ C:Int,(c:Int)=C:=⟨_,rfl⟩; have HC:=Hd hC; have c1:0≤C:=by omega
   have c2:C<1000000000:=by omega
   rw [hC]; obtain ⟨G,hG⟩:∃ G:Int,(m:Int)=G:=⟨_,rfl⟩; rw [hG]; have Q:(F:Int)=X*G:=by rw [← hF,← hG,← hX]; rfl
   have W:=Hd Q; have g1:0≤X*G:=by rw [← Q]; omega
   have g2:X*G≤999999999000000000:=by rw [← Q]; omega
   clear hX b5 hC hG Q hF d0 d4
   go_wp2
   go_roundw
   case rel=>exact ⟨i+1,(F+c) / 1000000000,L.set i ((F+c) % 1000000000),by omega,b8.o,Y.o.2,Y.o.1,E.o _ (by have:=HC.o; have:=W.o; omega),HZ.o,(by congr 1; have:=HC.o; have:=W.o; omega),by go_num,c6.o,J.o _⟩
   case measure=>simp [intOf]; omega
  ·obtain rfl:i=a.length:=by omega
   rw [List.take_of_length_le leR] at D; have I:=val_set L a.length c (by omega); rw [M _ leR] at I; have s:=K.cell a.length (by omega); have a7:=K.frozen a.length; obtain ⟨N,hN⟩:=exW (L.set a.length c); have O:Hid (val N=val a*m∧okL N∧N.length=a.length+1):=by
    rw [← hN]; exact ⟨by omega,okL_set L t _ _ (by omega),by simp [a5]⟩
   have E:Hid (RowT (wr.setCell ⟨w.heap.size,a.length,none⟩ (.int .u32 (c:Nat))) w.heap.size N):=by rw [← hN]; exact K.set _ _ (by omega)
   have J:Hid (Up w (wr.setCell ⟨w.heap.size,a.length,none⟩ (.int .u32 (c:Nat)))):=Z.setCell leR _; have e6:c<1000000000:=by omega
   clear D I K Z t M hN; obtain ⟨W3,S⟩:=exW (wr.setCell ⟨w.heap.size,a.length,none⟩ (.int .u32 (c:Nat))); have c7:=Hd S; rw [S] at E J; clear S
   go_wp2
   rw [c7.o]; clear s a7; have HI:Hid (∀ k,k≤a.length+1→trimL N=N.take k→IsL w.heap.size W3 (.slice (some ⟨w.heap.size,0,none⟩) k (a.length+1)) (trimL N)):=fun k hk he=>by
    have hl:(trimL N).length=k:=by rw [he,List.length_take]; have:=O.o.2.2; omega
    refine ⟨_,a.length+1,by rw [hl],by omega,by unfold maxLen; omega,trimL_ok N O.o.2.1,.inr ⟨w.heap.size,0,rfl,leR,E.o.lt,fun i hi=>?_⟩⟩; rw [Nat.zero_add,E.o.cell i (by have:=O.o.2.2; omega),getD_trimL N i hi]
   have U:Hid (isTrim (trimL N)∧val (trimL N)=val a*m∧(trimL N).length≤a.length+1):=⟨trimL_trim _,by rw [val_trimL]; exact O.o.1,by have:=trimL_len N; have:=O.o.2.2; omega⟩
   go_loop [9] (fun n=>∃ k:Nat,k≤a.length+1∧n=.int .i64 k∧trimL (N.take k)=trimL N) (fun n=>(intOf n).toNat)
   case atStart=>exact ⟨a.length+1,leR,val_int (by omega),by rw [List.take_of_length_le (by have:=O.o.2.2; omega)]⟩
   case round=>
    obtain ⟨k,hk,rfl,hp⟩:=hrel; have HP:=Hd hp; clear hp
    cases k with
    | zero=>
      have V:Hid (IsL w.heap.size W3 (.slice (some ⟨w.heap.size,0,none⟩) 0 (a.length+1)) (trimL N)):=HI.o 0 (by omega) (by rw [← HP.o]; rfl)
      go_wp2
      go_ret
      exact ⟨_,rfl,_,V.o,U.o.1,U.o.2.1,U.o.2.2,J.o⟩
    | succ j=>
      have s:=E.o.cell j (by have:=O.o.2.2; omega); obtain ⟨x,hx⟩:=exW (N.getD j 0); rw [hx] at s; have HX:=Hd hx; clear hx
      by_cases h0:x=0
      ·have hz:((x:Int)==0)=true:=by rw [beq_iff_eq]; omega
       have V:Hid (trimL (N.take j)=trimL N):=by rw [← trimL_take_zero N j (by have:=O.o.2.2; omega) (by rw [HX.o,h0])]; exact HP.o
       clear h0
       go_wp2
       go_round
       case rel=>exact ⟨j,by omega,val_int (by omega),V.o⟩
       case measure=>simp [intOf]
      ·have hz:((x:Int)==0)=false:=by rw [beq_eq_false_iff_ne]; omega
       have V:Hid (IsL w.heap.size W3 (.slice (some ⟨w.heap.size,0,none⟩) (j+1) (a.length+1)) (trimL N)):=HI.o (j+1) hk (HP.o.symm.trans (trimL_take_pos N j (by have:=O.o.2.2; omega) (by rw [HX.o]; exact h0))); clear h0
       go_wp2
       go_ret
       exact ⟨_,rfl,_,V.o,U.o.1,U.o.2.1,U.o.2.2,J.o⟩
theorem l1SubD_len (B:Nat) (va vb:Value) (a b:List Nat) (w:World) (ha:IsL B w va a) (hb:IsL B w vb b) (hla:a.length≤1000000) (hlb:b.length≤a.length) (hle:val b≤val a) :
 Calls Tryz.prog 91 #[va,vb] w fun e w'=>∃ L,e=.returned (.slice (some ⟨w.heap.size,0,none⟩) a.length a.length)∧IsL w.heap.size w' (.slice (some ⟨w.heap.size,0,none⟩) a.length a.length) L∧val L+val b=val a∧L.length=a.length∧Up w w':=by
 obtain ⟨i0,a3,b6,b7,b8⟩:=info_parts Tryz.info_u32; obtain ⟨pa,ca,rfl,_⟩:=id ha; obtain ⟨pb,cb,rfl,_⟩:=id hb; obtain ⟨_,_,_,T,K⟩:=ha.cells; obtain ⟨_,_,_,U,M⟩:=hb.cells; have HA:=Hd K; have HB:=Hd M; have a9:=Hd hle; clear K M ha hb hle
 go_enter Tryz.func91,Tryz.ntmps91
 go_wp2_with (at_make; refine wpList_make_full _ rfl _ _ 47 rfl w.heap.size 85 i0 (.int .u32 0) 1 Tryz.underlying47 a3 b6 b7 .i64 .i64 _ _ a.length rfl rfl ?m0 ?m1 ?m2 ?m3 ?m4 ?_)
 try (case m0=>first|rfl|omega)
 try (case m1=>first|rfl|omega)
 try (case m2=>(first|omega|(rw [b8]; omega)))
 try (case m3=>(unfold maxLen; omega))
 try (case m4=>exact leR)
 intro w1 H W
 first|rw [made_zero] at H|rw [made_zero'] at H
 have t:Row w1 w.heap.size (List.replicate a.length 0):=row_of_full H; have S:Up w w1:=(Below.refl _ _).grown W leR (fun k h=>by cases h); clear H W
 go_wp2
 go_loopw [6,14] (fun cv iv wr=>∃ (i c:Nat) (L:List Nat),i≤a.length∧c≤1∧L.length=a.length∧okL L∧Row wr w.heap.size L∧cv=.int .i64 (c:Nat)∧iv=.int .i64 i ∧
  val (L.take i)+val (b.take i)=val (a.take i)+1000000000 ^ i*c∧Up w wr) (fun _ iv _=>a.length - (intOf iv).toNat)
 case atStart=>exact ⟨0,0,_,by omega,by omega,by simp,fun x hx=>by rw [List.eq_of_mem_replicate hx]; omega,t,rfl,rfl,by simp [val],S⟩
 case round=>
  clear t S; obtain ⟨i,c,L,hi,hc,I,j,t,rfl,rfl,m,J⟩:=hrel
  by_cases Z:i<a.length
  ·obtain ⟨ba,oa,rfl,a5,K⟩:=HA.o i Z; rw [← J.cell (p:=⟨ba,oa+i,none⟩) a5] at K; have b4:=okL_getD a T i Z; obtain ⟨x,hx⟩:=exW (a.getD i 0); rw [hx] at K b4
   by_cases Y:i<b.length
   ·obtain ⟨bb,ob,rfl,a6,M⟩:=HB.o i Y; rw [← J.cell (p:=⟨bb,ob+i,none⟩) a6] at M; have b5:=okL_getD b U i Y; obtain ⟨y,hy⟩:=exW (b.getD i 0); rw [hy] at M b5
    by_cases V:x<c+y
    ·have s:=sub_step (1000000000 ^ i) _ _ _ c x y (x+1000000000 - c - y) 1 m (by omega); have F:Hid (val ((L.set i (x+1000000000 - c - y)).take (i+1))+val (b.take (i+1))=val (a.take (i+1))+1000000000 ^ (i+1)*1):=by
      unfold Hid
      rw [val_take_set L i _ (by omega),val_take_succ,val_take_succ,hx,hy,Nat.pow_succ]; exact s
     have G:=t.cell i (by omega); have Q:=t.frozen i; have E:Hid (Row (wr.setCell ⟨w.heap.size,i,none⟩ (.int .u32 (((x+1000000000 - c - y):Nat):Int))) w.heap.size (L.set i (x+1000000000 - c - y))):=t.set i _; have A:Hid (∀ u,Up w (wr.setCell ⟨w.heap.size,i,none⟩ u)):=fun u=>J.setCell leR u; have D:Hid (okL (L.set i (x+1000000000 - c - y))):=okL_set L j i _ (by omega); clear s m hx hy t J j
     go_wp2
     go_roundw
     case rel=>
      refine ⟨i+1,1,L.set i (x+1000000000 - c - y),by omega,by omega,by simp [I],D.o,?_,rfl,by go_num,F.o,A.o _⟩; have h:=E.o; rw [show ((((x+1000000000 - c - y)):Nat):Int)=_ from ?_] at h
      ·exact h
      ·omega
     case measure=>simp [intOf]; omega
    ·have s:=sub_step (1000000000 ^ i) _ _ _ c x y (x - c - y) 0 m (by omega); have F:Hid (val ((L.set i (x - c - y)).take (i+1))+val (b.take (i+1))=val (a.take (i+1))+1000000000 ^ (i+1)*0):=by
      unfold Hid
      rw [val_take_set L i _ (by omega),val_take_succ,val_take_succ,hx,hy,Nat.pow_succ]; exact s
     have G:=t.cell i (by omega); have Q:=t.frozen i; have E:Hid (Row (wr.setCell ⟨w.heap.size,i,none⟩ (.int .u32 (((x - c - y):Nat):Int))) w.heap.size (L.set i (x - c - y))):=t.set i _; have A:Hid (∀ u,Up w (wr.setCell ⟨w.heap.size,i,none⟩ u)):=fun u=>J.setCell leR u; have D:Hid (okL (L.set i (x - c - y))):=okL_set L j i _ (by omega); clear s m hx hy t J j
     go_wp2
     go_roundw
     case rel=>
      refine ⟨i+1,0,L.set i (x - c - y),by omega,by omega,by simp [I],D.o,?_,rfl,by go_num,F.o,A.o _⟩; have h:=E.o; rw [show ((((x - c - y)):Nat):Int)=_ from ?_] at h
      ·exact h
      ·omega
     case measure=>simp [intOf]; omega
   ·have O:b.getD i 0=0:=by rw [List.getD_eq_getElem?_getD,List.getElem?_eq_none (by omega)]; rfl
    by_cases V:x<c
    ·have s:=sub_step (1000000000 ^ i) _ _ _ c x 0 (x+1000000000 - c) 1 m (by omega); have F:Hid (val ((L.set i (x+1000000000 - c)).take (i+1))+val (b.take (i+1))=val (a.take (i+1))+1000000000 ^ (i+1)*1):=by
      unfold Hid
      rw [val_take_set L i _ (by omega),val_take_succ,val_take_succ,hx,O,Nat.pow_succ]; exact s
     have G:=t.cell i (by omega); have Q:=t.frozen i; have E:Hid (Row (wr.setCell ⟨w.heap.size,i,none⟩ (.int .u32 (((x+1000000000 - c):Nat):Int))) w.heap.size (L.set i (x+1000000000 - c))):=t.set i _; have A:Hid (∀ u,Up w (wr.setCell ⟨w.heap.size,i,none⟩ u)):=fun u=>J.setCell leR u; have D:Hid (okL (L.set i (x+1000000000 - c))):=okL_set L j i _ (by omega); clear s m hx O t J j
     go_wp2
     go_roundw
     case rel=>
      refine ⟨i+1,1,L.set i (x+1000000000 - c),by omega,by omega,by simp [I],D.o,?_,rfl,by go_num,F.o,A.o _⟩; have h:=E.o; rw [show ((((x+1000000000 - c)):Nat):Int)=_ from ?_] at h
      ·exact h
      ·omega
     case measure=>simp [intOf]; omega
    ·have s:=sub_step (1000000000 ^ i) _ _ _ c x 0 (x - c) 0 m (by omega); have F:Hid (val ((L.set i (x - c)).take (i+1))+val (b.take (i+1))=val (a.take (i+1))+1000000000 ^ (i+1)*0):=by
      unfold Hid
      rw [val_take_set L i _ (by omega),val_take_succ,val_take_succ,hx,O,Nat.pow_succ]; exact s
     have G:=t.cell i (by omega); have Q:=t.frozen i; have E:Hid (Row (wr.setCell ⟨w.heap.size,i,none⟩ (.int .u32 (((x - c):Nat):Int))) w.heap.size (L.set i (x - c))):=t.set i _; have A:Hid (∀ u,Up w (wr.setCell ⟨w.heap.size,i,none⟩ u)):=fun u=>J.setCell leR u; have D:Hid (okL (L.set i (x - c))):=okL_set L j i _ (by omega); clear s m hx O t J j
     go_wp2
     go_roundw
     case rel=>
      refine ⟨i+1,0,L.set i (x - c),by omega,by omega,by simp [I],D.o,?_,rfl,by go_num,F.o,A.o _⟩; have h:=E.o; rw [show ((((x - c)):Nat):Int)=_ from ?_] at h
      ·exact h
      ·omega
     case measure=>simp [intOf]; omega
  ·obtain rfl:i=a.length:=by omega
   have hE:=sub_end (1000000000 ^ a.length) c _ _ _ m (by rw [List.take_of_length_le (by omega)]; exact val_lt_of L j _ (by omega)) (by rw [List.take_of_length_le (by omega),List.take_of_length_le (by omega)]; exact a9.o); rw [List.take_of_length_le (by omega),List.take_of_length_le (by omega),List.take_of_length_le (by omega)] at hE; have HE:=Hd hE; have HL:Hid (IsL w.heap.size wr (.slice (some ⟨w.heap.size,0,none⟩) a.length a.length) L):=by
    have:=t.isL (B:=w.heap.size) (cap:=a.length) leR j (by omega) (by unfold maxLen; omega); rw [I] at this; exact this
   have a8:=Hd J; clear hE m t J j
   go_wp2
   go_ret
   exact ⟨L,rfl,HL.o,HE.o,I,a8.o⟩
end Go.Proofs.YtnhbmpnhijgpmaaGreatDoor
