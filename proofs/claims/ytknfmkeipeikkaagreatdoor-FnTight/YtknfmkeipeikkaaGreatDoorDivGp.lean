import Derived.Test.YtknfmkeipeikkaaGreatDoorOfImplp
import Derived.Test.YtknfmkeipeikkaaGreatDoorM4p
import Derived.Test.YtknfmkeipeikkaaGreatDoorMulLimbsp
import Derived.Test.YtknfmkeipeikkaaGreatDoorM2p
set_option maxRecDepth 100000
set_option maxHeartbeats 2000000
namespace Go.Proofs.YtknfmkeipeikkaaGreatDoor
open Go.ChangeShapes Go.WideShapes Go.ChangeAt Go.RowKit
theorem wl_trim (n k:Nat) (h0:n / 1000000000 ^ k=0) (h1:k=0∨n / 1000000000 ^ (k - 1)≠0):isTrim (wl n k):=by
 intro hne
 cases k with
 | zero=>exact absurd rfl hne
 | succ k=>
   have h2:n / 1000000000 ^ k≠0:=by
    rcases h1 with h|h
    ·omega
    ·rwa [Nat.add_sub_cancel] at h
   have e:(wl n (k+1)).getLast hne=n / 1000000000 ^ k % 1000000000:=by simp [wl_succ]
   rw [e]; rw [Nat.pow_succ,← Nat.div_div_eq_div_mul] at h0; omega
theorem limbsOf_trim0 (n:Nat) (w:World) (hn:n<18446744073709551616) :
 Calls Tryz.prog 67 #[.int .u64 (n:Nat)] w fun e w'=>∃ v k,e=.returned v∧k≤3∧IsL w.heap.size w' v (wl n k)∧val (wl n k)=n∧(n / 1000000000 ^ k=0∧(k=0∨n / 1000000000 ^ (k - 1)≠0))∧Up w w':=by
 obtain ⟨i0,E,T,U,V⟩:=info_parts Tryz.info_u32; have Y:=Hd hn; clear hn
 go_enter Tryz.func67,Tryz.ntmps67
 go_wp2
 go_loopw [0,3] (fun q v wr=>∃ k:Nat,(k≤3∧(k=0∨n / 1000000000 ^ (k - 1)≠0))∧q=.int .u64 (n / 1000000000 ^ k:Nat) ∧
  wr.ownsRow w.heap.size 87 1 v k ((wl n k).map (fun x=>Value.int .u32 (x:Nat)))∧Up w wr) (fun q _ _=>(intOf q).toNat)
 case atStart=>exact ⟨0,⟨by omega,.inl rfl⟩,val_int (by simp),World.ownsRow_nil _ _ _ _,Below.refl _ _⟩
 case round=>
  obtain ⟨k,⟨hk,H⟩,rfl,h,y⟩:=hrel; have I:=Hd H; clear H; obtain ⟨q,hq⟩:=exW (n / 1000000000 ^ k); have s:=Hd hq; rw [hq]; clear hq
  by_cases D:q=0
  ·have HV:Hid (val (wl n k)=n):=by
    unfold Hid
    have:=wl_val n k; rw [s.o,D] at this
    simpa using this
   have hL:IsL w.heap.size wr u3 (wl n k):=isL_of_owns (e:=87) (by rw [wl_length]; exact h) (wl_ok n k); have HL:=Hd hL; have HB:=Hd y; have K:Hid (n / 1000000000 ^ k=0):=s.o.trans D; clear hL h y; subst D
   go_wp2
   go_ret
   exact ⟨_,k,rfl,hk,HL.o,HV.o,⟨K.o,I.o⟩,HB.o⟩
  ·have b7:k<3:=by
    apply Classical.byContradiction; intro hc; obtain rfl:k=3:=by omega
    have:=s.o; have h3:(1000000000:Nat) ^ 3=1000000000000000000000000000:=by decide
    rw [h3] at this; have:=Y.o; omega
   obtain ⟨x,O⟩:∃ x:Int,(q:Int)=x:=⟨_,rfl⟩; have Z:=Hd O; rw [O]; have x0:0<x:=by omega
   have x1:x<18446744073709551616:=by
    have h1:=Nat.div_le_self n (1000000000 ^ k); rw [s.o] at h1; have:=Y.o; omega
   have HM:Hid (x % 1000000000=(n / 1000000000 ^ k % 1000000000:Nat)):=by unfold Hid; rw [s.o,← Z.o]; rfl
   have HD:Hid (x / 1000000000=(n / 1000000000 ^ (k+1):Nat)):=by
    unfold Hid
    rw [Nat.pow_succ,← Nat.div_div_eq_div_mul,s.o,← Z.o]; rfl
   have J:Hid (n / 1000000000 ^ k≠0):=by unfold Hid; rw [s.o]; exact D
   clear O D
   go_wp2_with (at_builtin; refine wpList_append_own _ rfl _ _ 51 rfl w.heap.size 87 i0 (.int .u32 0) 1 4 Tryz.underlying51 E T U V rfl (by decide) _ _ _ rfl (h.alloc _) ⟨wr.heap.size,0,none⟩ 1 1 [_] rfl rfl (cell_one_new _ _ _) ?c2 ?c3 ?c4 ?c5 ?_)
   case c2=>first|rfl|(intro u hu; simp at hu; subst hu; rfl)
   case c3=>unfold maxLen; omega
   case c4=>omega
   case c5=>have:=y.size; simp; omega
   intro v' w1 m j _; have M:Up w w1:=(y.alloc y.size _).grown j (by have:=y.size; simp; omega) (fun q hq=>(h.lt q hq).1); have HO:Hid (w1.ownsRow w.heap.size 87 1 v' (k+1) ((wl n (k+1)).map (fun x=>Value.int .u32 (x:Nat)))):=by
    unfold Hid
    rw [wl_succ,List.map_append,List.map_cons,List.map_nil,← HM.o]; exact m
   clear j h y m
   go_wp2
   go_roundw
   case rel=>exact ⟨k+1,⟨by omega,.inr (by rw [Nat.add_sub_cancel]; exact J.o)⟩,val_int HD.o,HO.o,M⟩
   case measure=>simp [intOf]; omega
theorem limbsOf_trim (n:Nat) (w:World) (hn:n<18446744073709551616) :
 Calls Tryz.prog 67 #[.int .u64 (n:Nat)] w fun e w'=>∃ v t,e=.returned v∧IsL w.heap.size w' v t∧isTrim t∧val t=n∧t.length≤3∧Up w w':=by
 refine (limbsOf_trim0 n w hn).mono ?_; rintro e w' ⟨v,k,rfl,hk,m,s,⟨h,j⟩,hb⟩; exact ⟨v,_,rfl,m,wl_trim n k h j,s,by rw [wl_length]; exact hk,hb⟩
structure Only (R:Nat) (w w':World):Prop where
 below:Below R w w'
 block:∀ k,k<w.heap.size→k≠R→w'.heap[k]? = w.heap[k]?
theorem Only.refl (R:Nat) (w:World):Only R w w:=⟨Below.refl _ _,fun _ _ _=>rfl⟩
theorem Only.trans {R:Nat} {a b c:World} (h:Only R a b) (k:Only R b c):Only R a c:=
 ⟨h.below.trans k.below,fun i hi hn=>(k.block i (Nat.lt_of_lt_of_le hi h.below.size) hn).trans (h.block i hi hn)⟩
theorem Only.of {R:Nat} {w w':World} (h:Up w w') (hR:R≤w.heap.size):Only R w w':=⟨h.mono hR,fun k hk _=>h.block k hk⟩
theorem Only.setCell {R:Nat} {w w':World} (h:Only R w w') (i:Nat) (u:Value):Only R w (w'.setCell ⟨R,i,none⟩ u):=
 ⟨h.below.setCell leR u,fun k hk hn=>by
  refine Eq.trans ?_ (h.block k hk hn)
  show (w'.heap.modify R _)[k]? = _
  rw [Array.getElem?_modify,if_neg (fun e=>hn e.symm)]⟩
theorem Only.cell {R:Nat} {w w':World} (h:Only R w w') {p:Addr} (hp:p.block<w.heap.size) (hn:p.block≠R):w'.cell? p=w.cell? p:=by
 unfold World.cell?; rw [h.block _ hp hn]
theorem Only.rowT {R D:Nat} {w w':World} {l:List Nat} (h:Only R w w') (hD:D≠R) (hr:RowT w D l):RowT w' D l:=by
 have j:=hr.lt; obtain ⟨t,hr⟩:=hr; exact ⟨t,(h.block D j hD).trans hr⟩
theorem drop_set' (L:List Nat) (off i x:Nat):(L.set (off+i) x).drop off=(L.drop off).set i x:=by
 rw [List.drop_set,if_neg (by omega),Nat.add_sub_cancel_left]
theorem drop_getD (A:List Nat) (off i:Nat):(A.drop off).getD i 0=A.getD (off+i) 0:=by
 rw [List.getD_eq_getElem?_getD,List.getD_eq_getElem?_getD,List.getElem?_drop]
theorem take_set' (L A:List Nat) (off i x:Nat) (h:L.take off=A.take off):(L.set (off+i) x).take off=A.take off:=by
 rw [List.take_set_of_le (by omega),h]
theorem val_seg_set (L:List Nat) (off i x:Nat) (hi:off+i<L.length):val (((L.set (off+i) x).drop off).take (i+1))=val ((L.drop off).take i)+1000000000 ^ i*x:=by
 rw [drop_set',val_take_set _ _ _ (by simp; omega)]
theorem val_seg_succ (A:List Nat) (off i:Nat):val ((A.drop off).take (i+1))=val ((A.drop off).take i)+1000000000 ^ i*A.getD (off+i) 0:=by
 rw [val_take_succ,drop_getD]
theorem subScaledAt_any (R off cap f:Nat) (pb:Option Addr) (cb:Nat) (A b:List Nat) (w:World) (hR:RowT w R A) (hAok:okL A) (hn:off+b.length≤A.length) (hA:A.length≤1000000) (hbok:okL b) (hf:f≤1000000000)
 (hcb:∀ i,i<b.length→∃ c off,pb=some ⟨c,off,none⟩∧(c<w.heap.size∧c≠R)∧w.cell? ⟨c,off+i,none⟩=some (.int .u32 (b.getD i 0:Nat))) :
 Calls Tryz.prog 106 #[.slice (some ⟨R,off,none⟩) b.length cap,.slice pb b.length cb,.int .u64 (f:Nat)] w fun e w'=>∃ c L,e=.returned (.int .u64 (c:Nat))∧RowT w' R L∧L.length=A.length∧okL L∧L.drop (off+b.length)=A.drop (off+b.length)∧L.take off=A.take off∧c≤f ∧
  val ((L.drop off).take b.length)+f*val b=val ((A.drop off).take b.length)+1000000000 ^ b.length*c∧Only R w w':=by
 have HB:=Hd hcb; clear hcb
 go_enter Tryz.func106,Tryz.ntmps106
 go_wp2
 go_loopw [7,12] (fun cv iv wr=>∃ (i c:Nat) (L:List Nat),i≤b.length∧c≤f∧L.length=A.length∧okL L∧RowT wr R L∧L.drop (off+i)=A.drop (off+i)∧L.take off=A.take off∧cv=.int .u64 (c:Nat)∧iv=.int .i64 i ∧
  val ((L.drop off).take i)+f*val (b.take i)=val ((A.drop off).take i)+1000000000 ^ i*c∧Only R w wr) (fun _ iv _=>b.length - (intOf iv).toNat)
 case atStart=>exact ⟨0,0,A,by omega,by omega,rfl,hAok,hR,rfl,rfl,rfl,rfl,by simp [val],Only.refl _ _⟩
 case round=>
  clear hR; obtain ⟨i,c,L,hi,b6,b5,s,hR,H,I,rfl,rfl,m,V⟩:=hrel; have hc:c≤1000000000:=by omega
  by_cases c9:i<b.length
  ·have E:=hR.cell (off+i) (by omega); have hx:=getD_drop L A (off+i) H; have b7:=okL_getD A hAok (off+i) (by omega); rw [hx] at E; clear hx; obtain ⟨x,hx⟩:=exW (A.getD (off+i) 0); rw [hx] at b7 E; obtain ⟨bb,ob,rfl,a5,hcb⟩:=HB.o i c9; rw [← V.cell (p:=⟨bb,ob+i,none⟩) a5.1 a5.2] at hcb; have b8:=okL_getD b hbok i c9; obtain ⟨y,hy⟩:=exW (b.getD i 0); rw [hy] at hcb b8; obtain ⟨F,hF⟩:=exW (f*y); have c7:F≤f*999999999:=by rw [← hF]; exact Nat.mul_le_mul_left f (by omega)
   obtain ⟨X,hX⟩:∃ X:Int,(x:Int)=X:=⟨_,rfl⟩; have U:=Hd hX; have x1:0≤X:=by omega
   have x2:X<1000000000:=by omega
   rw [hX] at E; obtain ⟨C,hC⟩:∃ C:Int,(c:Int)=C:=⟨_,rfl⟩; have HC:=Hd hC; have c1:0≤C:=by omega
   have c2:C≤1000000000:=by omega
   rw [hC]; obtain ⟨G,hG⟩:∃ G:Int,(f:Int)=G:=⟨_,rfl⟩; rw [hG]; obtain ⟨Y,hY⟩:∃ Y:Int,(y:Int)=Y:=⟨_,rfl⟩; have M:(F:Int)=G*Y:=by rw [← hF,← hG,← hY]; rfl
   have D:=Hd M; have g1:0≤G*Y:=by rw [← M]; omega
   have g2:G*Y≤999999999000000000:=by rw [← M]; omega
   have y1:0≤Y:=by omega
   have y2:Y<1000000000:=by omega
   rw [hY] at hcb
   by_cases Z:x<(c+F) % 1000000000
   ·skip
    have O:=scaled_step (1000000000 ^ i) _ _ _ c x y (x+1000000000 - (c+F) % 1000000000) ((c+F) / 1000000000+1) f m (by rw [hF]; omega); have b4:Hid (val (((L.set (off+i) (x+1000000000 - (c+F) % 1000000000)).drop off).take (i+1))+f*val (b.take (i+1))=val ((A.drop off).take (i+1))+1000000000 ^ (i+1)*((c+F) / 1000000000+1)):=by
     unfold Hid
     rw [val_seg_set L off i _ (by omega),val_seg_succ,val_take_succ,hx,hy,Nat.pow_succ]; exact O
    have d5:=hR.frozen (off+i); have b3:Hid (∀ (u:Nat) (v:Int) (hv:v=(((x+1000000000 - (c+F) % 1000000000):Nat):Int)),RowT ((wr.setCell ⟨R,off+i,none⟩ (.int .u32 (X+1000000000))).setCell ⟨R,off+i,none⟩ (.int .u32 v)) R (L.set (off+i) (x+1000000000 - (c+F) % 1000000000))):=fun u v hv=>by
     have e:X+1000000000=((x+1000000000:Nat):Int):=by have:=U.o; omega
     have h:=(hR.set (off+i) (x+1000000000) (by omega)).set (off+i) (x+1000000000 - (c+F) % 1000000000) (by simp; omega); rw [List.set_set] at h; rw [hv,e]; exact h
    have a9:Hid (∀ v:Int,v=(((x+1000000000 - (c+F) % 1000000000):Nat):Int)→RowT (wr.setCell ⟨R,off+i,none⟩ (.int .u32 v)) R (L.set (off+i) (x+1000000000 - (c+F) % 1000000000))):=fun v hv=>by
     rw [hv]; exact hR.set (off+i) _ (by omega)
    have J:Hid (∀ u v,Only R w (wr.setCell ⟨R,off+i,none⟩ u)∧Only R w ((wr.setCell ⟨R,off+i,none⟩ u).setCell ⟨R,off+i,none⟩ v)):=fun u v=>⟨V.setCell _ u,(V.setCell _ u).setCell _ v⟩; have a8:Hid (okL (L.set (off+i) (x+1000000000 - (c+F) % 1000000000))):=okL_set L s (off+i) _ (by omega); have K:Hid ((L.set (off+i) (x+1000000000 - (c+F) % 1000000000)).drop (off+(i+1))=A.drop (off+(i+1))∧(L.set (off+i) (x+1000000000 - (c+F) % 1000000000)).take off=A.take off):=⟨drop_set_succ L A (off+i) _ H,take_set' L A off i _ I⟩; have a7:Hid (((c+F) / 1000000000+1)≤f):=by
     unfold Hid
     omega
    have t1:X<(C+G*Y) % 1000000000:=by have:=U.o; have:=HC.o; have:=D.o; omega
    have j:Hid _:=Z; clear O m hx hy hR V s H I hX b7 Z hC hG hY M b8 hF c7 hc b6
    go_wp2
    go_roundw
    case rel=>
     refine ⟨i+1,((c+F) / 1000000000+1),L.set (off+i) (x+1000000000 - (c+F) % 1000000000),by omega,a7.o,by simp [b5],a8.o,?_,K.o.1,K.o.2,?_,by go_num,b4.o,?_⟩
     ·have T:∀ v:Int,v=(((x+1000000000 - (c+F) % 1000000000):Nat):Int)→v=(((x+1000000000 - (c+F) % 1000000000):Nat):Int):=fun _ h=>h
      first
       | exact a9.o _ (T _ (by have:=U.o; have:=HC.o; have:=j.o; have:=D.o; omega))
       | exact b3.o 0 _ (T _ (by have:=U.o; have:=HC.o; have:=j.o; have:=D.o; omega))
     ·congr 1; have:=U.o; have:=HC.o; have:=j.o; have:=D.o; omega
     ·first|exact (J.o _ (.bool true)).1|exact (J.o _ _).2
    case measure=>simp [intOf]; omega
   ·skip
    have O:=scaled_step (1000000000 ^ i) _ _ _ c x y (x - (c+F) % 1000000000) ((c+F) / 1000000000) f m (by rw [hF]; omega); have b4:Hid (val (((L.set (off+i) (x - (c+F) % 1000000000)).drop off).take (i+1))+f*val (b.take (i+1))=val ((A.drop off).take (i+1))+1000000000 ^ (i+1)*((c+F) / 1000000000)):=by
     unfold Hid
     rw [val_seg_set L off i _ (by omega),val_seg_succ,val_take_succ,hx,hy,Nat.pow_succ]; exact O
    have d5:=hR.frozen (off+i); have b3:Hid (∀ (u:Nat) (v:Int) (hv:v=(((x - (c+F) % 1000000000):Nat):Int)),RowT ((wr.setCell ⟨R,off+i,none⟩ (.int .u32 (X+1000000000))).setCell ⟨R,off+i,none⟩ (.int .u32 v)) R (L.set (off+i) (x - (c+F) % 1000000000))):=fun u v hv=>by
     have e:X+1000000000=((x+1000000000:Nat):Int):=by have:=U.o; omega
     have h:=(hR.set (off+i) (x+1000000000) (by omega)).set (off+i) (x - (c+F) % 1000000000) (by simp; omega); rw [List.set_set] at h; rw [hv,e]; exact h
    have a9:Hid (∀ v:Int,v=(((x - (c+F) % 1000000000):Nat):Int)→RowT (wr.setCell ⟨R,off+i,none⟩ (.int .u32 v)) R (L.set (off+i) (x - (c+F) % 1000000000))):=fun v hv=>by
     rw [hv]; exact hR.set (off+i) _ (by omega)
    have J:Hid (∀ u v,Only R w (wr.setCell ⟨R,off+i,none⟩ u)∧Only R w ((wr.setCell ⟨R,off+i,none⟩ u).setCell ⟨R,off+i,none⟩ v)):=fun u v=>⟨V.setCell _ u,(V.setCell _ u).setCell _ v⟩; have a8:Hid (okL (L.set (off+i) (x - (c+F) % 1000000000))):=okL_set L s (off+i) _ (by omega); have K:Hid ((L.set (off+i) (x - (c+F) % 1000000000)).drop (off+(i+1))=A.drop (off+(i+1))∧(L.set (off+i) (x - (c+F) % 1000000000)).take off=A.take off):=⟨drop_set_succ L A (off+i) _ H,take_set' L A off i _ I⟩; have a7:Hid (((c+F) / 1000000000)≤f):=by
     unfold Hid
     omega
    have t1:(C+G*Y) % 1000000000≤X:=by have:=U.o; have:=HC.o; have:=D.o; omega
    have j:Hid _:=Z; clear O m hx hy hR V s H I hX b7 Z hC hG hY M b8 hF c7 hc b6
    go_wp2
    go_roundw
    case rel=>
     refine ⟨i+1,((c+F) / 1000000000),L.set (off+i) (x - (c+F) % 1000000000),by omega,a7.o,by simp [b5],a8.o,?_,K.o.1,K.o.2,?_,by go_num,b4.o,?_⟩
     ·have T:∀ v:Int,v=(((x - (c+F) % 1000000000):Nat):Int)→v=(((x - (c+F) % 1000000000):Nat):Int):=fun _ h=>h
      first
       | exact a9.o _ (T _ (by have:=U.o; have:=HC.o; have:=j.o; have:=D.o; omega))
       | exact b3.o 0 _ (T _ (by have:=U.o; have:=HC.o; have:=j.o; have:=D.o; omega))
     ·congr 1; have:=U.o; have:=HC.o; have:=j.o; have:=D.o; omega
     ·first|exact (J.o _ (.bool true)).1|exact (J.o _ _).2
    case measure=>simp [intOf]; omega
  ·obtain rfl:i=b.length:=by omega
   rw [List.take_of_length_le (Nat.le_refl b.length)] at m; have HE:Hid (RowT wr R L∧L.length=A.length∧okL L∧L.drop (off+b.length)=A.drop (off+b.length)∧L.take off=A.take off∧val ((L.drop off).take b.length)+f*val b=val ((A.drop off).take b.length)+1000000000 ^ b.length*c∧Only R w wr):=⟨hR,b5,s,H,I,m,V⟩; clear m hR V s H I
   go_wp2
   go_ret
   obtain ⟨e1,e2,e3,e4,e5,e6,e7⟩:=HE.o; exact ⟨c,L,rfl,e1,e2,e3,e4,e5,b6,e6,e7⟩
theorem addIntoAt_any (R off cap:Nat) (pb:Option Addr) (cb:Nat) (A b:List Nat) (w:World) (hR:RowT w R A) (hAok:okL A) (hn:off+b.length≤A.length) (hA:A.length≤1000000) (hbok:okL b)
 (hcb:∀ i,i<b.length→∃ c off,pb=some ⟨c,off,none⟩∧(c<w.heap.size∧c≠R)∧w.cell? ⟨c,off+i,none⟩=some (.int .u32 (b.getD i 0:Nat))) :
 Calls Tryz.prog 104 #[.slice (some ⟨R,off,none⟩) b.length cap,.slice pb b.length cb] w fun e w'=>∃ c L,e=.returned (.int .u32 (c:Nat))∧RowT w' R L∧L.length=A.length∧okL L∧L.drop (off+b.length)=A.drop (off+b.length)∧L.take off=A.take off∧c≤1 ∧
  val ((L.drop off).take b.length)+1000000000 ^ b.length*c=val ((A.drop off).take b.length)+val b∧Only R w w':=by
 have HB:=Hd hcb; clear hcb
 go_enter Tryz.func104,Tryz.ntmps104
 go_wp2
 go_loopw [5,10] (fun cv iv wr=>∃ (i c:Nat) (L:List Nat),i≤b.length∧c≤1∧L.length=A.length∧okL L∧RowT wr R L∧L.drop (off+i)=A.drop (off+i)∧L.take off=A.take off∧cv=.int .u32 (c:Nat)∧iv=.int .i64 i ∧
  val ((L.drop off).take i)+1000000000 ^ i*c=val ((A.drop off).take i)+val (b.take i)∧Only R w wr) (fun _ iv _=>b.length - (intOf iv).toNat)
 case atStart=>exact ⟨0,0,A,by omega,by omega,rfl,hAok,hR,rfl,rfl,rfl,rfl,by simp [val],Only.refl _ _⟩
 case round=>
  clear hR; obtain ⟨i,c,L,hi,hc,a3,j,hR,s,D,rfl,rfl,h,Z⟩:=hrel
  by_cases a7:i<b.length
  ·have m:=hR.cell (off+i) (by omega); have M:=getD_drop L A (off+i) s; have a5:=okL_getD A hAok (off+i) (by omega); rw [M] at m; clear M; obtain ⟨x,M⟩:=exW (A.getD (off+i) 0); rw [M] at a5 m; obtain ⟨bb,ob,rfl,K,hcb⟩:=HB.o i a7; rw [← Z.cell (p:=⟨bb,ob+i,none⟩) K.1 K.2] at hcb; have a6:=okL_getD b hbok i a7; obtain ⟨y,hy⟩:=exW (b.getD i 0); rw [hy] at hcb a6; obtain ⟨X,hX⟩:∃ X:Int,(x:Int)=X:=⟨_,rfl⟩; have HX:=Hd hX; have x1:0≤X:=by omega
   have x2:X<1000000000:=by omega
   rw [hX] at m; obtain ⟨C,hC⟩:∃ C:Int,(c:Int)=C:=⟨_,rfl⟩; have HC:=Hd hC; have c1:0≤C:=by omega
   have c2:C≤1:=by omega
   rw [hC]; obtain ⟨Y,hY⟩:∃ Y:Int,(y:Int)=Y:=⟨_,rfl⟩; have HY:=Hd hY; have y1:0≤Y:=by omega
   have y2:Y<1000000000:=by omega
   rw [hY] at hcb
   by_cases J:1000000000≤x+c+y
   ·skip
    have I:=into_step (1000000000 ^ i) _ _ _ c x y (x+c+y - 1000000000) 1 h (by omega); have V:Hid (val (((L.set (off+i) (x+c+y - 1000000000)).drop off).take (i+1))+1000000000 ^ (i+1)*1=val ((A.drop off).take (i+1))+val (b.take (i+1))):=by
     unfold Hid
     rw [val_seg_set L off i _ (by omega),val_seg_succ,val_take_succ,M,hy,Nat.pow_succ]; exact I
    have b8:=hR.frozen (off+i); have U:Hid (∀ v:Int,v=(((x+c+y - 1000000000):Nat):Int)→RowT (wr.setCell ⟨R,off+i,none⟩ (.int .u32 v)) R (L.set (off+i) (x+c+y - 1000000000))):=fun v hv=>by
     rw [hv]; exact hR.set (off+i) _ (by omega)
    have O:Hid (∀ u,Only R w (wr.setCell ⟨R,off+i,none⟩ u)):=fun u=>Z.setCell _ u; have T:Hid (okL (L.set (off+i) (x+c+y - 1000000000))):=okL_set L j (off+i) _ (by omega); have E:Hid ((L.set (off+i) (x+c+y - 1000000000)).drop (off+(i+1))=A.drop (off+(i+1))∧(L.set (off+i) (x+c+y - 1000000000)).take off=A.take off):=⟨drop_set_succ L A (off+i) _ s,take_set' L A off i _ D⟩; have t1:1000000000≤X+C+Y:=by have:=HX.o; have:=HC.o; have:=HY.o; omega
    have H:Hid _:=J; clear I h M hy hR Z j s D hX a5 J hC hY a6
    go_wp2
    go_roundw
    case rel=>exact ⟨i+1,1,L.set (off+i) (x+c+y - 1000000000),by omega,by omega,by simp [a3],T.o,U.o _ (by have:=H.o; have:=HX.o; have:=HC.o; have:=HY.o; omega),E.o.1,E.o.2,rfl,by go_num,V.o,O.o _⟩
    case measure=>simp [intOf]; omega
   ·skip
    have I:=into_step (1000000000 ^ i) _ _ _ c x y (x+c+y) 0 h (by omega); have V:Hid (val (((L.set (off+i) (x+c+y)).drop off).take (i+1))+1000000000 ^ (i+1)*0=val ((A.drop off).take (i+1))+val (b.take (i+1))):=by
     unfold Hid
     rw [val_seg_set L off i _ (by omega),val_seg_succ,val_take_succ,M,hy,Nat.pow_succ]; exact I
    have b8:=hR.frozen (off+i); have U:Hid (∀ v:Int,v=(((x+c+y):Nat):Int)→RowT (wr.setCell ⟨R,off+i,none⟩ (.int .u32 v)) R (L.set (off+i) (x+c+y))):=fun v hv=>by
     rw [hv]; exact hR.set (off+i) _ (by omega)
    have O:Hid (∀ u,Only R w (wr.setCell ⟨R,off+i,none⟩ u)):=fun u=>Z.setCell _ u; have T:Hid (okL (L.set (off+i) (x+c+y))):=okL_set L j (off+i) _ (by omega); have E:Hid ((L.set (off+i) (x+c+y)).drop (off+(i+1))=A.drop (off+(i+1))∧(L.set (off+i) (x+c+y)).take off=A.take off):=⟨drop_set_succ L A (off+i) _ s,take_set' L A off i _ D⟩; have t1:X+C+Y<1000000000:=by have:=HX.o; have:=HC.o; have:=HY.o; omega
    have H:Hid _:=J; clear I h M hy hR Z j s D hX a5 J hC hY a6
    go_wp2
    go_roundw
    case rel=>exact ⟨i+1,0,L.set (off+i) (x+c+y),by omega,by omega,by simp [a3],T.o,U.o _ (by have:=H.o; have:=HX.o; have:=HC.o; have:=HY.o; omega),E.o.1,E.o.2,rfl,by go_num,V.o,O.o _⟩
    case measure=>simp [intOf]; omega
  ·obtain rfl:i=b.length:=by omega
   rw [List.take_of_length_le (Nat.le_refl b.length)] at h; have HE:Hid (RowT wr R L∧L.length=A.length∧okL L∧L.drop (off+b.length)=A.drop (off+b.length)∧L.take off=A.take off∧val ((L.drop off).take b.length)+1000000000 ^ b.length*c=val ((A.drop off).take b.length)+val b∧Only R w wr):=⟨hR,a3,j,s,D,h,Z⟩; clear h hR Z j s D
   go_wp2
   go_ret
   obtain ⟨e1,e2,e3,e4,e5,e6,e7⟩:=HE.o; exact ⟨c,L,rfl,e1,e2,e3,e4,e5,hc,e6,e7⟩
theorem muld_step (P VL VN c m x Va d c' F:Nat) (h:VL+P*c=Va*m) (hs:VN+P*0=VL+P*d) (hF:x*m=F) (hd:d+1000000000*c'=F+c):VN+P*1000000000*c'=(Va+P*x)*m:=by
 have e1:P*(d+1000000000*c')=P*(F+c):=by rw [hd]
 have j:(Va+P*x)*m=Va*m+P*(x*m):=by grind
 rw [j,← h,hF]; rw [Nat.mul_add,Nat.mul_add,← Nat.mul_assoc] at e1; omega
theorem l1MulD_any (B:Nat) (va:Value) (a:List Nat) (m:Nat) (w:World) (ha:IsL B w va a) (hla:a.length≤100000) (hm:m<1000000000) :
 Calls Tryz.prog 93 #[va,.int .u64 (m:Nat)] w fun e w'=>∃ v L,e=.returned v∧IsL w.heap.size w' v L∧isTrim L∧val L=val a*m∧L.length≤a.length+1∧Up w w':=by
 obtain ⟨i0,b7,e2,e3,e4⟩:=info_parts Tryz.info_u32; obtain ⟨pa,ca,rfl,_⟩:=id ha; obtain ⟨_,_,_,b3,I⟩:=ha.cells; have HA:=Hd I; clear I ha
 go_enter Tryz.func93,Tryz.ntmps93
 go_wp2_with (at_make; refine wpList_make_full _ rfl _ _ 51 rfl w.heap.size 87 i0 (.int .u32 0) 1 Tryz.underlying51 b7 e2 e3 .i64 .i64 _ _ (a.length+1) rfl rfl (by first|rfl|omega) (by first|rfl|omega) (by first|omega|(rw [e4]; omega)) (by unfold maxLen; omega) leR ?_)
 intro w1 D b5
 first|rw [made_zero] at D|rw [made_zero'] at D
 have M:RowT w1 w.heap.size (List.replicate (a.length+1) 0):=(row_of_full D).tail; have a8:Up w w1:=(Below.refl _ _).grown b5 leR (fun k h=>by cases h); clear D b5
 go_wp2
 go_loopw [6,16] (fun cv iv wr=>∃ (i c:Nat) (L:List Nat),i≤a.length∧c≤m∧L.length=a.length+1∧okL L∧RowT wr w.heap.size L∧(∀ j,i≤j→L.getD j 0=0)∧cv=.int .u64 (c:Nat)∧iv=.int .i64 i ∧
  val L+1000000000 ^ i*c=val (a.take i)*m∧Up w wr) (fun _ iv _=>a.length - (intOf iv).toNat)
 case atStart=>exact ⟨0,0,_,by omega,by omega,by simp,fun x hx=>by rw [List.eq_of_mem_replicate hx]; omega,M,fun j hj=>by simp [List.getD_eq_getElem?_getD,List.getElem?_replicate]; split<;>rfl,rfl,rfl,by simp [val_replicate,val],a8⟩
 case round=>
  clear M a8; obtain ⟨i,c,L,hi,e0,a9,y,M,O,rfl,rfl,E,hB⟩:=hrel
  by_cases b6:i<a.length
  ·obtain ⟨ba,oa,rfl,b8,I⟩:=HA.o i b6; rw [← hB.cell (p:=⟨ba,oa+i,none⟩) b8] at I; have b9:=okL_getD a b3 i b6; have Y:=val_take_succ a i; obtain ⟨x,hx⟩:=exW (a.getD i 0); rw [hx] at I b9 Y; obtain ⟨F,hF⟩:=exW (x*m); have d6:F≤999999999*m:=by rw [← hF]; exact Nat.mul_le_mul_right m (by omega)
   have J:=val_set L i ((F+c) % 1000000000) (by omega); rw [O i leR] at J; have d2:Hid (val (L.set i ((F+c) % 1000000000))+1000000000 ^ (i+1)*((F+c) / 1000000000)=val (a.take (i+1))*m):=by
    unfold Hid
    rw [Y,Nat.pow_succ]; exact muld_step _ _ _ c m x _ _ _ F E J hF (by omega)
   have s:=M.cell i (by omega); have b4:=M.frozen i; have H:Hid (∀ v:Int,v=(((F+c) % 1000000000:Nat):Int)→RowT (wr.setCell ⟨w.heap.size,i,none⟩ (.int .u32 v)) w.heap.size (L.set i ((F+c) % 1000000000))):=fun v hv=>by
    rw [hv]; exact M.set i _ (by omega)
   have K:Hid (∀ u,Up w (wr.setCell ⟨w.heap.size,i,none⟩ u)):=fun u=>hB.setCell leR u; have a6:Hid (okL (L.set i ((F+c) % 1000000000))∧(L.set i ((F+c) % 1000000000)).length=a.length+1):=⟨okL_set L y i _ (Nat.mod_lt _ (by decide)),by simp [a9]⟩; have HZ:Hid (∀ j,i+1≤j→(L.set i ((F+c) % 1000000000)).getD j 0=0):=fun j hj=>by
    rw [getD_set_ne _ _ _ _ (by omega)]; exact O j (by omega)
   have d0:Hid ((F+c) / 1000000000≤m):=by unfold Hid; omega
   clear E hx M hB y O J Y; obtain ⟨X,hX⟩:∃ X:Int,(x:Int)=X:=⟨_,rfl⟩; have x1:0≤X:=by omega
   have x2:X<1000000000:=by omega
   rw [hX] at I; obtain ⟨C,hC⟩:∃ C:Int,(c:Int)=C:=⟨_,rfl⟩; have HC:=Hd hC; have c1:0≤C:=by omega
   have c2:C<1000000000:=by omega
   rw [hC]; obtain ⟨G,hG⟩:∃ G:Int,(m:Int)=G:=⟨_,rfl⟩; rw [hG]; have U:(F:Int)=X*G:=by rw [← hF,← hG,← hX]; rfl
   have a5:=Hd U; have g1:0≤X*G:=by rw [← U]; omega
   have g2:X*G≤999999999000000000:=by rw [← U]; omega
   clear hX b9 hC hG U hF d6 e0
   go_wp2
   go_roundw
   case rel=>exact ⟨i+1,(F+c) / 1000000000,L.set i ((F+c) % 1000000000),by omega,d0.o,a6.o.2,a6.o.1,H.o _ (by have:=HC.o; have:=a5.o; omega),HZ.o,(by congr 1; have:=HC.o; have:=a5.o; omega),by go_num,d2.o,K.o _⟩
   case measure=>simp [intOf]; omega
  ·obtain rfl:i=a.length:=by omega
   rw [List.take_of_length_le leR] at E; have J:=val_set L a.length c (by omega); rw [O _ leR] at J; have s:=M.cell a.length (by omega); have b4:=M.frozen a.length; obtain ⟨N,hN⟩:=exW (L.set a.length c); have T:Hid (val N=val a*m∧okL N∧N.length=a.length+1):=by
    rw [← hN]; exact ⟨by omega,okL_set L y _ _ (by omega),by simp [a9]⟩
   have H:Hid (RowT (wr.setCell ⟨w.heap.size,a.length,none⟩ (.int .u32 (c:Nat))) w.heap.size N):=by rw [← hN]; exact M.set _ _ (by omega)
   have K:Hid (Up w (wr.setCell ⟨w.heap.size,a.length,none⟩ (.int .u32 (c:Nat)))):=hB.setCell leR _; have g0:c<1000000000:=by omega
   clear E J M hB y O hN; obtain ⟨W3,V⟩:=exW (wr.setCell ⟨w.heap.size,a.length,none⟩ (.int .u32 (c:Nat))); have d3:=Hd V; rw [V] at H K; clear V
   go_wp2
   rw [d3.o]; clear s b4; have HI:Hid (∀ k,k≤a.length+1→trimL N=N.take k→IsL w.heap.size W3 (.slice (some ⟨w.heap.size,0,none⟩) k (a.length+1)) (trimL N)):=fun k hk he=>by
    have hl:(trimL N).length=k:=by rw [he,List.length_take]; have:=T.o.2.2; omega
    refine ⟨_,a.length+1,by rw [hl],by omega,by unfold maxLen; omega,trimL_ok N T.o.2.1,.inr ⟨w.heap.size,0,rfl,leR,H.o.lt,fun i hi=>?_⟩⟩; rw [Nat.zero_add,H.o.cell i (by have:=T.o.2.2; omega),getD_trimL N i hi]
   have Z:Hid (isTrim (trimL N)∧val (trimL N)=val a*m∧(trimL N).length≤a.length+1):=⟨trimL_trim _,by rw [val_trimL]; exact T.o.1,by have:=trimL_len N; have:=T.o.2.2; omega⟩
   go_loop [9] (fun n=>∃ k:Nat,k≤a.length+1∧n=.int .i64 k∧trimL (N.take k)=trimL N) (fun n=>(intOf n).toNat)
   case atStart=>exact ⟨a.length+1,leR,val_int (by omega),by rw [List.take_of_length_le (by have:=T.o.2.2; omega)]⟩
   case round=>
    obtain ⟨k,hk,rfl,hp⟩:=hrel; have HP:=Hd hp; clear hp
    cases k with
    | zero=>
      have HE:Hid (IsL w.heap.size W3 (.slice (some ⟨w.heap.size,0,none⟩) 0 (a.length+1)) (trimL N)):=HI.o 0 (by omega) (by rw [← HP.o]; rfl)
      go_wp2
      go_ret
      exact ⟨_,rfl,_,HE.o,Z.o.1,Z.o.2.1,Z.o.2.2,K.o⟩
    | succ j=>
      have s:=H.o.cell j (by have:=T.o.2.2; omega); obtain ⟨x,hx⟩:=exW (N.getD j 0); rw [hx] at s; have HX:=Hd hx; clear hx
      by_cases h0:x=0
      ·have hz:((x:Int)==0)=true:=by rw [beq_iff_eq]; omega
       have HE:Hid (trimL (N.take j)=trimL N):=by rw [← trimL_take_zero N j (by have:=T.o.2.2; omega) (by rw [HX.o,h0])]; exact HP.o
       clear h0
       go_wp2
       go_round
       case rel=>exact ⟨j,by omega,val_int (by omega),HE.o⟩
       case measure=>simp [intOf]
      ·have hz:((x:Int)==0)=false:=by rw [beq_eq_false_iff_ne]; omega
       have HE:Hid (IsL w.heap.size W3 (.slice (some ⟨w.heap.size,0,none⟩) (j+1) (a.length+1)) (trimL N)):=HI.o (j+1) hk (HP.o.symm.trans (trimL_take_pos N j (by have:=T.o.2.2; omega) (by rw [HX.o]; exact h0))); clear h0
       go_wp2
       go_ret
       exact ⟨_,rfl,_,HE.o,Z.o.1,Z.o.2.1,Z.o.2.2,K.o⟩
theorem l1SubD_len (B:Nat) (va vb:Value) (a b:List Nat) (w:World) (ha:IsL B w va a) (hb:IsL B w vb b) (hla:a.length≤1000000) (hlb:b.length≤a.length) (hle:val b≤val a) :
 Calls Tryz.prog 94 #[va,vb] w fun e w'=>∃ L,e=.returned (.slice (some ⟨w.heap.size,0,none⟩) a.length a.length)∧IsL w.heap.size w' (.slice (some ⟨w.heap.size,0,none⟩) a.length a.length) L∧val L+val b=val a∧L.length=a.length∧Up w w':=by
 obtain ⟨i0,b4,d1,d2,d3⟩:=info_parts Tryz.info_u32; obtain ⟨pa,ca,rfl,_⟩:=id ha; obtain ⟨pb,cb,rfl,_⟩:=id hb; obtain ⟨_,_,_,a5,U⟩:=ha.cells; obtain ⟨_,_,_,a6,V⟩:=hb.cells; have HA:=Hd U; have HB:=Hd V; have b9:=Hd hle; clear U V ha hb hle
 go_enter Tryz.func94,Tryz.ntmps94
 go_wp2_with (at_make; refine wpList_make_full _ rfl _ _ 51 rfl w.heap.size 87 i0 (.int .u32 0) 1 Tryz.underlying51 b4 d1 d2 .i64 .i64 _ _ a.length rfl rfl ?m0 ?m1 ?m2 ?m3 ?m4 ?_)
 try (case m0=>first|rfl|omega)
 try (case m1=>first|rfl|omega)
 try (case m2=>(first|omega|(rw [d3]; omega)))
 try (case m3=>(unfold maxLen; omega))
 try (case m4=>exact leR)
 intro w1 M a8
 first|rw [made_zero] at M|rw [made_zero'] at M
 have D:Row w1 w.heap.size (List.replicate a.length 0):=row_of_full M; have a3:Up w w1:=(Below.refl _ _).grown a8 leR (fun k h=>by cases h); clear M a8
 go_wp2
 go_loopw [6,14] (fun cv iv wr=>∃ (i c:Nat) (L:List Nat),i≤a.length∧c≤1∧L.length=a.length∧okL L∧Row wr w.heap.size L∧cv=.int .i64 (c:Nat)∧iv=.int .i64 i ∧
  val (L.take i)+val (b.take i)=val (a.take i)+1000000000 ^ i*c∧Up w wr) (fun _ iv _=>a.length - (intOf iv).toNat)
 case atStart=>exact ⟨0,0,_,by omega,by omega,by simp,fun x hx=>by rw [List.eq_of_mem_replicate hx]; omega,D,rfl,rfl,by simp [val],a3⟩
 case round=>
  clear D a3; obtain ⟨i,c,L,hi,hc,O,j,D,rfl,rfl,m,T⟩:=hrel
  by_cases b3:i<a.length
  ·obtain ⟨ba,oa,rfl,b5,U⟩:=HA.o i b3; rw [← T.cell (p:=⟨ba,oa+i,none⟩) b5] at U; have c9:=okL_getD a a5 i b3; obtain ⟨x,hx⟩:=exW (a.getD i 0); rw [hx] at U c9
   by_cases a9:i<b.length
   ·obtain ⟨bb,ob,rfl,b6,V⟩:=HB.o i a9; rw [← T.cell (p:=⟨bb,ob+i,none⟩) b6] at V; have d0:=okL_getD b a6 i a9; obtain ⟨y,hy⟩:=exW (b.getD i 0); rw [hy] at V d0
    by_cases a7:x<c+y
    ·have s:=sub_step (1000000000 ^ i) _ _ _ c x y (x+1000000000 - c - y) 1 m (by omega); have J:Hid (val ((L.set i (x+1000000000 - c - y)).take (i+1))+val (b.take (i+1))=val (a.take (i+1))+1000000000 ^ (i+1)*1):=by
      unfold Hid
      rw [val_take_set L i _ (by omega),val_take_succ,val_take_succ,hx,hy,Nat.pow_succ]; exact s
     have K:=D.cell i (by omega); have Z:=D.frozen i; have I:Hid (Row (wr.setCell ⟨w.heap.size,i,none⟩ (.int .u32 (((x+1000000000 - c - y):Nat):Int))) w.heap.size (L.set i (x+1000000000 - c - y))):=D.set i _; have E:Hid (∀ u,Up w (wr.setCell ⟨w.heap.size,i,none⟩ u)):=fun u=>T.setCell leR u; have H:Hid (okL (L.set i (x+1000000000 - c - y))):=okL_set L j i _ (by omega); clear s m hx hy D T j
     go_wp2
     go_roundw
     case rel=>
      refine ⟨i+1,1,L.set i (x+1000000000 - c - y),by omega,by omega,by simp [O],H.o,?_,rfl,by go_num,J.o,E.o _⟩; have h:=I.o; rw [show ((((x+1000000000 - c - y)):Nat):Int)=_ from ?_] at h
      ·exact h
      ·omega
     case measure=>simp [intOf]; omega
    ·have s:=sub_step (1000000000 ^ i) _ _ _ c x y (x - c - y) 0 m (by omega); have J:Hid (val ((L.set i (x - c - y)).take (i+1))+val (b.take (i+1))=val (a.take (i+1))+1000000000 ^ (i+1)*0):=by
      unfold Hid
      rw [val_take_set L i _ (by omega),val_take_succ,val_take_succ,hx,hy,Nat.pow_succ]; exact s
     have K:=D.cell i (by omega); have Z:=D.frozen i; have I:Hid (Row (wr.setCell ⟨w.heap.size,i,none⟩ (.int .u32 (((x - c - y):Nat):Int))) w.heap.size (L.set i (x - c - y))):=D.set i _; have E:Hid (∀ u,Up w (wr.setCell ⟨w.heap.size,i,none⟩ u)):=fun u=>T.setCell leR u; have H:Hid (okL (L.set i (x - c - y))):=okL_set L j i _ (by omega); clear s m hx hy D T j
     go_wp2
     go_roundw
     case rel=>
      refine ⟨i+1,0,L.set i (x - c - y),by omega,by omega,by simp [O],H.o,?_,rfl,by go_num,J.o,E.o _⟩; have h:=I.o; rw [show ((((x - c - y)):Nat):Int)=_ from ?_] at h
      ·exact h
      ·omega
     case measure=>simp [intOf]; omega
   ·have Y:b.getD i 0=0:=by rw [List.getD_eq_getElem?_getD,List.getElem?_eq_none (by omega)]; rfl
    by_cases a7:x<c
    ·have s:=sub_step (1000000000 ^ i) _ _ _ c x 0 (x+1000000000 - c) 1 m (by omega); have J:Hid (val ((L.set i (x+1000000000 - c)).take (i+1))+val (b.take (i+1))=val (a.take (i+1))+1000000000 ^ (i+1)*1):=by
      unfold Hid
      rw [val_take_set L i _ (by omega),val_take_succ,val_take_succ,hx,Y,Nat.pow_succ]; exact s
     have K:=D.cell i (by omega); have Z:=D.frozen i; have I:Hid (Row (wr.setCell ⟨w.heap.size,i,none⟩ (.int .u32 (((x+1000000000 - c):Nat):Int))) w.heap.size (L.set i (x+1000000000 - c))):=D.set i _; have E:Hid (∀ u,Up w (wr.setCell ⟨w.heap.size,i,none⟩ u)):=fun u=>T.setCell leR u; have H:Hid (okL (L.set i (x+1000000000 - c))):=okL_set L j i _ (by omega); clear s m hx Y D T j
     go_wp2
     go_roundw
     case rel=>
      refine ⟨i+1,1,L.set i (x+1000000000 - c),by omega,by omega,by simp [O],H.o,?_,rfl,by go_num,J.o,E.o _⟩; have h:=I.o; rw [show ((((x+1000000000 - c)):Nat):Int)=_ from ?_] at h
      ·exact h
      ·omega
     case measure=>simp [intOf]; omega
    ·have s:=sub_step (1000000000 ^ i) _ _ _ c x 0 (x - c) 0 m (by omega); have J:Hid (val ((L.set i (x - c)).take (i+1))+val (b.take (i+1))=val (a.take (i+1))+1000000000 ^ (i+1)*0):=by
      unfold Hid
      rw [val_take_set L i _ (by omega),val_take_succ,val_take_succ,hx,Y,Nat.pow_succ]; exact s
     have K:=D.cell i (by omega); have Z:=D.frozen i; have I:Hid (Row (wr.setCell ⟨w.heap.size,i,none⟩ (.int .u32 (((x - c):Nat):Int))) w.heap.size (L.set i (x - c))):=D.set i _; have E:Hid (∀ u,Up w (wr.setCell ⟨w.heap.size,i,none⟩ u)):=fun u=>T.setCell leR u; have H:Hid (okL (L.set i (x - c))):=okL_set L j i _ (by omega); clear s m hx Y D T j
     go_wp2
     go_roundw
     case rel=>
      refine ⟨i+1,0,L.set i (x - c),by omega,by omega,by simp [O],H.o,?_,rfl,by go_num,J.o,E.o _⟩; have h:=I.o; rw [show ((((x - c)):Nat):Int)=_ from ?_] at h
      ·exact h
      ·omega
     case measure=>simp [intOf]; omega
  ·obtain rfl:i=a.length:=by omega
   have hE:=sub_end (1000000000 ^ a.length) c _ _ _ m (by rw [List.take_of_length_le (by omega)]; exact val_lt_of L j _ (by omega)) (by rw [List.take_of_length_le (by omega),List.take_of_length_le (by omega)]; exact b9.o); rw [List.take_of_length_le (by omega),List.take_of_length_le (by omega),List.take_of_length_le (by omega)] at hE; have HE:=Hd hE; have HL:Hid (IsL w.heap.size wr (.slice (some ⟨w.heap.size,0,none⟩) a.length a.length) L):=by
    have:=D.isL (B:=w.heap.size) (cap:=a.length) leR j (by omega) (by unfold maxLen; omega); rw [O] at this; exact this
   have b8:=Hd T; clear hE m D T j
   go_wp2
   go_ret
   exact ⟨L,rfl,HL.o,HE.o,O,b8.o⟩
end Go.Proofs.YtknfmkeipeikkaaGreatDoor
