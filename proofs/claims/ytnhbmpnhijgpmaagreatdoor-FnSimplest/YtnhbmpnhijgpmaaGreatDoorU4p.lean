import Derived.Test.YtnhbmpnhijgpmaaGreatDoorGcdSpecp
import Derived.Test.YtnhbmpnhijgpmaaGreatDoorU1p
import Derived.Test.YtnhbmpnhijgpmaaGreatDoorCmpAp
import Derived.Laws.Strings3
set_option maxRecDepth 100000
set_option maxHeartbeats 4000000
namespace Go.Proofs.YtnhbmpnhijgpmaaGreatDoor
open Go.ChangeShapes Go.WideShapes Go.ChangeAt Go.RowKit
theorem isN_one {B:Nat} {w:World} {g0:Int} {gn:Bool} {ga:Option Addr} {gl gc:Nat} {G:Int} (h:IsN B w (.agg #[.int .i64 g0,.bool gn,.slice ga gl gc]) G):(((gl:Int)==0)&&(g0==1))=decide (G=1):=by
 obtain ⟨neg,t,⟨E,m,s⟩,A⟩:=h
 rcases s with ⟨u,v,e,⟨p,c,rfl,_⟩⟩|⟨u,e⟩
 ·simp only [Value.agg.injEq,Array.mk.injEq,List.cons.injEq,Value.slice.injEq,and_true] at e; have hl:gl=t.length:=e.2.2.2.1; have j:t≠[]:=by rintro rfl; simp at u
  have h3:=val_ge t m j; have h4:1000000000 ^ 2≤1000000000 ^ (t.length - 1):=Nat.pow_le_pow_right (by decide) (by omega); have h5:(1000000000:Nat) ^ 2=1000000000000000000:=by decide
  have i:G≠1:=by
   rw [← A]
   cases neg<;>simp [sg]<;>omega
  have s:((gl:Int)==0)=false:=by rw [beq_eq_false_iff_ne]; omega
  rw [s,decide_eq_false i]; rfl
 simp only [Value.agg.injEq,Array.mk.injEq,List.cons.injEq,Value.slice.injEq,Value.int.injEq,and_true,true_and] at e; have D:g0=sg neg (val t):=e.1; have hl:gl=0:=e.2.2.2.1; subst hl D; rw [A]
 by_cases i:G=1
 ·subst i; rfl
 have:(G==1)=false:=by rw [beq_eq_false_iff_ne]; exact i
 rw [this,decide_eq_false i]; rfl
theorem isNeg_at (q:ByteArray) (h:0<q.size):((q[0].toNat:Int)==45)=isNeg q:=by
 unfold isNeg; have e:(q.extract 0 1).toList=[q[0]]:=by
  rw [ByteArray.toList_eq,ByteArray.data_extract,Array.toList_extract]
  show (q.data.toList.drop 0).take (1 - 0)=[q[0]]
  have hl:0<q.data.toList.length:=by simpa using h
  cases m:q.data.toList with
  | nil=>rw [m] at hl; simp at hl
  | cons c l=>
    have:q[0]=c:=by
     have i:q.data.toList[0]? = some q[0]:=by rw [List.getElem?_eq_getElem hl]; rfl
     rw [m] at i
     simpa using i.symm
    rw [this]; rfl
 rw [e]
 by_cases j:q[0]=45
 ·rw [j]; rfl
 have i:((q[0].toNat:Int)==45)=false:=by
  rw [beq_eq_false_iff_ne]; intro t; exact j (UInt8.toNat_inj.1 (by have e3:(45:UInt8).toNat=45:=rfl; omega))
 have s:([q[0]]==[45])=false:=by simp [j]
 rw [i,s]
theorem eqB (a:ByteArray) (c:UInt8):(a.toList==[c])=decide (a=strB [c]):=by
 have:(strB [c]).toList=[c]:=by rw [ByteArray.toList_eq]; rfl
 have h:=toList_inj (a:=a) (b:=strB [c]); rw [this] at h; exact h
theorem specIsRat_any (s:ByteArray) (w:World) (hs:s.size≤maxLen) :
 Calls Tryz.prog 15 #[.string s] w fun e w'=>∃ b,e=.returned (.bool b)∧IsRatB s b∧Up w w':=by
 obtain ⟨k,hk⟩:=isCut_ex s; have HK:=Hd hk; clear hk
 cases k with
 | none=>
   go_enter Tryz.func15,Tryz.ntmps15
   go_wp2_with fail
   refine (l2Cut_any s none _ hs HK.o).mono ?_; rintro e w' ⟨rfl,a3⟩; subst a3; have e1:cutI none = -1:=rfl; rw [e1]
   go_wp2_with fail
   refine (isInt_spec s _ hs).mono ?_; rintro e w2 ⟨rfl,a5⟩; subst a5; obtain ⟨b,hb⟩:=exW (isIntB s); have HB:=Hd hb; rw [hb]; clear hb
   go_wp2
   go_ret
   refine ⟨_,rfl,⟨none,HK.o,?_⟩,Below.refl _ _⟩; constructor
   ·intro e; exact ⟨numT s,1,HB.o.trans e,rfl,rfl⟩
   ·rintro ⟨x,y,h,_⟩; rw [← HB.o]; exact h
 | some i=>
   have hi:=isCut_lt HK.o; have c9:s.extract 0 i=cutP s (some i):=rfl; have d0:s.extract (i+1) s.size=cutQ s (some i):=rfl; obtain ⟨p,hp⟩:=exW (cutP s (some i)); obtain ⟨q,hq⟩:=exW (cutQ s (some i)); have j:Hid (cutP s (some i)=p∧cutQ s (some i)=q):=⟨hp,hq⟩; rw [hp] at c9; rw [hq] at d0; have d2:p.size≤maxLen:=by rw [← c9,ByteArray.size_extract]; omega
   have d5:q.size≤maxLen:=by rw [← d0,ByteArray.size_extract]; omega
   have b6:Hid (p.size≤maxLen∧q.size≤maxLen):=⟨d2,d5⟩; unfold maxLen at hs; clear hp hq d2 d5
   go_enter Tryz.func15,Tryz.ntmps15
   go_wp2_with fail
   refine (l2Cut_any s (some i) _ (by unfold maxLen; exact hs) HK.o).mono ?_; rintro e w' ⟨rfl,a3⟩; subst a3; have e1:cutI (some i)=(i:Int):=rfl; rw [e1]; have m:Hid ((¬ ∃ x y,RatV s (some i) x y)→IsRatB s false):=fun h=>⟨some i,HK.o,⟨(fun e=>by cases e),fun hx=>(h hx).elim⟩⟩
   go_wp2_with fail
   refine (isInt_spec p _ b6.o.1).mono ?_; rintro e w2 ⟨rfl,a5⟩; subst a5
   cases H:isIntB p
   ·have E:=Hd H; clear H; have D:Hid (IsRatB s false):=m.o (fun ⟨x,y,h⟩=>by
     have t:=h.1.1; rw [j.o.1,E.o] at t
     cases t)
    go_wp2
    go_ret
    exact ⟨false,rfl,D.o,Below.refl _ _⟩
   have E:=Hd H; clear H
   go_wp2_with fail
   refine (isInt_spec q _ b6.o.2).mono ?_; rintro e L ⟨rfl,g3⟩; subst g3
   cases I:isIntB q
   ·have A:=Hd I; clear I; have D:Hid (IsRatB s false):=m.o (fun ⟨x,y,h⟩=>by
     have t:=h.1.2; rw [j.o.2,A.o] at t
     cases t)
    go_wp2
    go_ret
    exact ⟨false,rfl,D.o,Below.refl _ _⟩
   have A:=Hd I; clear I
   cases d1:(p.toList==[48])
   case true=>
    have S:=Hd d1; have D:Hid (IsRatB s false):=m.o (fun ⟨x,y,h⟩=>by
     have t:=h.2.1.2.1; rw [j.o.1] at t; exact t (of_decide_eq_true ((eqB p 48).symm.trans S.o)))
    go_wp2
    go_ret
    exact ⟨false,rfl,D.o,Below.refl _ _⟩
   case false=>
   have S:=Hd d1
   cases d3:(q.toList==[48])
   case true=>
    have T:=Hd d3; have D:Hid (IsRatB s false):=m.o (fun ⟨x,y,h⟩=>by
     have t:=h.2.1.1; rw [j.o.2,of_decide_eq_true ((eqB q 48).symm.trans T.o)] at t; exact t num_nil)
    go_wp2
    go_ret
    exact ⟨false,rfl,D.o,Below.refl _ _⟩
   case false=>
   have T:=Hd d3
   cases d4:(q.toList==[49])
   case true=>
    have U:=Hd d4; have D:Hid (IsRatB s false):=m.o (fun ⟨x,y,h⟩=>by
     have t:=h.2.1.2.2.1; rw [j.o.2] at t; exact t (of_decide_eq_true ((eqB q 49).symm.trans U.o)))
    go_wp2
    go_ret
    exact ⟨false,rfl,D.o,Below.refl _ _⟩
   case false=>
   have U:=Hd d4; have g2:0<q.size:=Nat.pos_of_ne_zero fun h=>text_ne q A.o (ByteArray.ext (by
    have:q.data.size=0:=h; rw [Array.eq_empty_of_size_eq_zero this]; rfl))
   have b9:=isNeg_at q g2
   cases u:isNeg q
   case true=>
    have Q:=Hd u; rw [u] at b9; have D:Hid (IsRatB s false):=m.o (fun ⟨x,y,h⟩=>by
     have t:=h.2.1.2.2.2.1; rw [j.o.2,Q.o] at t
     cases t)
    go_wp2
    go_ret
    exact ⟨false,rfl,D.o,Below.refl _ _⟩
   case false=>
   have Q:=Hd u; rw [u] at b9; clear u; have b5:Hid ((lim p).length≤100000∧(lim q).length≤100000):=⟨by have:=lim_len' p E.o; omega,by have:=lim_len' q A.o; omega⟩; obtain ⟨w0,d6⟩:∃ w0:World,w0=L:=⟨_,rfl⟩; have h6:=Hd d6; clear d6
   go_wp2_with fail
   refine (l1Read_any p _ E.o).mono ?_; rintro e w4 ⟨z1,rfl,d9,c6⟩; have e8:Hid (IsZ L.heap.size w4 z1 (isNeg p) (lim p)):=d9; have M:=Hd c6; clear d9 c6
   go_wp2_with fail
   refine (l1Read_any q _ A.o).mono ?_; rintro e w5 ⟨z2,rfl,e0,V⟩; have e9:Hid (IsZ L.heap.size w5 z2 (isNeg q) (lim q)):=e0.mono M.o.size; have b7:Hid (IsZ L.heap.size w5 z1 (isNeg p) (lim p)):=e8.o.below V; have O:Hid (Up L w5):=M.o.trans (V.mono M.o.size); clear e0 V
   go_wp2_with fail
   refine (l1Gcd_any _ z1 z2 _ _ _ _ 100000 _ O.o.size b7.o e9.o b5.o.1 b5.o.2 leR).mono ?_; rintro e w6 ⟨z3,rfl,Z,c7⟩; obtain ⟨g0,gn,ga,gl,gc,rfl⟩:=Z.shape; have J:=Hd (isN_one Z); have a9:Hid (Up L w6):=O.o.trans (c7.mono O.o.size); obtain ⟨W7,F⟩:=exW (w6.alloc (.cells #[.int .i64 g0,.bool gn,.slice ga gl gc] 49)); have e7:=Hd F; have c8:Up w6 W7:=by rw [← F]; exact below_alloc _ _
   have G:Bx W7 w6.heap.size [.int .i64 g0,.bool gn,.slice ga gl gc]:=by rw [← F]; exact bx_new w6 _ _
   have b3:Hid (Up L W7):=a9.o.trans (c8.mono a9.o.size); have e6:Hid (∀ W,Up W7 W→Bx W w6.heap.size [.int .i64 g0,.bool gn,.slice ga gl gc]):=fun W hW=>G.below G.lt hW; obtain ⟨k0,k1,k2⟩:=G.k3; have K:Hid (∀ r,decide (gcdI (sg (isNeg p) (val (lim p))) (sg (isNeg q) (val (lim q)))=1)=r→IsRatB s r):=fun r hr=>by
    refine ⟨some i,HK.o,?_⟩; rw [← hr,decide_eq_true_eq]; have hg:gcdI (sg (isNeg p) (val (lim p))) (sg (isNeg q) (val (lim q)))=((Int.gcd (numT p) (numT q):Nat):Int):=rfl; rw [hg]; constructor
    ·intro t; refine ⟨numT p,numT q,?_⟩
     show (isIntB (cutP s (some i))=true∧isIntB (cutQ s (some i))=true)∧_
     rw [j.o.1,j.o.2]; refine ⟨⟨E.o,A.o⟩,⟨?_,?_,?_,Q.o,by omega⟩,rfl,rfl⟩
     ·intro h2; have h3:=numT_inj q (strB [48]) A.o (by kernel_rfl) (by rw [h2,num_nil]); have h4:=(eqB q 48).symm.trans T.o; exact (of_decide_eq_false h4) h3
     ·exact of_decide_eq_false ((eqB p 48).symm.trans S.o)
     ·exact of_decide_eq_false ((eqB q 49).symm.trans U.o)
    ·rintro ⟨x,y,_,⟨_,_,_,_,h5⟩,_⟩; rw [j.o.1,j.o.2] at h5; rw [h5]; rfl
   clear Z c7 F c8 G
   go_upto_region 10 with fail
   rw [e7.o]; refine (l1IsSmall_ex g0 gn ga gl gc W7).mono ?_; rintro e w8 ⟨rfl,d7⟩; have Y:Up W7 w8:=by rw [d7]; exact below_alloc _ _
   have b4:Hid (Up L w8):=b3.o.trans (Y.mono b3.o.size); have d8:=e6.o w8 Y; have j0:=d8.cell 0; simp only [List.getElem?_cons_zero] at j0; clear d7 Y d8 k0 k1 k2
   by_cases hz:gl=0
   ·have z:((gl:Int)==0)=true:=by rw [beq_iff_eq]; omega
    have HE:Hid ((g0==1)=decide (gcdI (sg (isNeg p) (val (lim p))) (sg (isNeg q) (val (lim q)))=1)):=by
     have h:=J.o; rw [z] at h; exact h
    rw [z]
    go_wp2
    go_ret
    exact ⟨_,rfl,K.o _ HE.o.symm,b4.o⟩
   ·have z:((gl:Int)==0)=false:=by rw [beq_eq_false_iff_ne]; omega
    have HE:Hid (decide (gcdI (sg (isNeg p) (val (lim p))) (sg (isNeg q) (val (lim q)))=1)=false):=by
     have h:=J.o; rw [z] at h; exact h.symm
    rw [z]
    go_wp2
    go_ret
    exact ⟨_,rfl,K.o _ HE.o,b4.o⟩
def IsQN (B:Nat) (w:World) (z:Value) (x y:Int):Prop:=∃ (p0:Int) (pn:Bool) (pa:Option Addr) (pl pc:Nat) (q0:Int) (qn:Bool) (qa:Option Addr) (ql qc:Nat),z=.agg #[.int .i64 p0,.bool pn,.slice pa pl pc,.int .i64 q0,.bool qn,.slice qa ql qc] ∧
 NumZ B w (.agg #[.int .i64 p0,.bool pn,.slice pa pl pc]) x 1000∧NumZ B w (.agg #[.int .i64 q0,.bool qn,.slice qa ql qc]) y 1000
theorem NumZ.keeps {B:Nat} {w W:World} {z:Value} {x:Int} {n:Nat} {g h:Nat} (hl:NumZ B w z x n) (n1:NoInt w g) (n2:NoInt w h) (k:Keeps g h w W):NumZ B W z x n:=by
 obtain ⟨neg,t,⟨i,j,m⟩,D⟩:=hl; refine ⟨neg,t,⟨i,j,?_⟩,D⟩
 rcases m with ⟨s,v,A,u⟩|m
 ·exact .inl ⟨s,v,A,u.keeps n1 n2 k⟩
 exact .inr m
theorem NumZ.mono' {B B':Nat} {w:World} {z:Value} {x:Int} {n n':Nat} (h:NumZ B w z x n) (hb:B'≤B) (hn:n≤n'):NumZ B' w z x n':=by
 obtain ⟨neg,t,i,j,h3⟩:=h; exact ⟨neg,t,i.mono hb,j,by omega⟩
theorem NumZ.shape' {B:Nat} {w:World} {z:Value} {x:Int} {n:Nat} (h:NumZ B w z x n):∃ (z0:Int) (zn:Bool) (za:Option Addr) (zl zc:Nat),z=.agg #[.int .i64 z0,.bool zn,.slice za zl zc]:=by
 obtain ⟨neg,t,i,_⟩:=h; exact i.shape
def W6 (W:World) (g:Nat) (u0 u1 u2 u3 u4 u5:Value):World:=(((((W.setCell ⟨g,0,none⟩ u0).setCell ⟨g,1,none⟩ u1).setCell ⟨g,2,none⟩ u2).setCell ⟨g,3,none⟩ u3).setCell ⟨g,4,none⟩ u4).setCell ⟨g,5,none⟩ u5
theorem keeps6 (W:World) (g:Nat) (u0 u1 u2 u3 u4 u5:Value):Keeps g g W (W6 W g u0 u1 u2 u3 u4 u5):=
 Keeps.setCell (Keeps.setCell (Keeps.setCell (Keeps.setCell (Keeps.setCell (Keeps.setCell (Keeps.refl g g W) ⟨g,0,none⟩ u0 (Or.inl rfl)) ⟨g,1,none⟩ u1 (Or.inl rfl)) ⟨g,2,none⟩ u2 (Or.inl rfl)) ⟨g,3,none⟩ u3 (Or.inl rfl)) ⟨g,4,none⟩ u4 (Or.inl rfl)) ⟨g,5,none⟩ u5 (Or.inl rfl)
theorem set6 {N:Nat} {w W:World} (h:Below N w W) (g:Nat) (hg:N≤g) (u0 u1 u2 u3 u4 u5:Value):Below N w (W6 W g u0 u1 u2 u3 u4 u5):=
 (((((h.setCell (p:=⟨g,0,none⟩) hg u0).setCell (p:=⟨g,1,none⟩) hg u1).setCell (p:=⟨g,2,none⟩) hg u2).setCell (p:=⟨g,3,none⟩) hg u3).setCell (p:=⟨g,4,none⟩) hg u4).setCell (p:=⟨g,5,none⟩) hg u5
theorem Bx.put6 {W:World} {g:Nat} {a b c d e f:Value} (h:Bx W g [a,b,c,d,e,f]) (u0 u1 u2 u3 u4 u5:Value):Bx (W6 W g u0 u1 u2 u3 u4 u5) g [u0,u1,u2,u3,u4,u5]:=(((((h.set 0 u0).set 1 u1).set 2 u2).set 3 u3).set 4 u4).set 5 u5
theorem l2OfZ_any (B:Nat) (a0:Int) (an:Bool) (aa:Option Addr) (al ac:Nat) (x:Int) (w:World) (hBw:B≤w.heap.size) (h:NumZ B w (.agg #[.int .i64 a0,.bool an,.slice aa al ac]) x 1000) :
 Calls Tryz.prog 59 #[.agg #[.int .i64 a0,.bool an,.slice aa al ac]] w fun e w'=>∃ z,e=.returned z∧IsQN B w' z x 1∧Up w w':=by
 have HN:=Hd h; have O:=Hd hBw; clear h hBw; obtain ⟨H,j⟩:=exW ((w.alloc (.cells #[.int .i64 a0,.bool an,.slice aa al ac] 49)).alloc (.cells #[.int .i64 0,.bool false,.slice none 0 0,.int .i64 0,.bool false,.slice none 0 0] 51)); have Q:=Hd j; have i:Hid (Up w H):=by
  unfold Hid
  rw [← j]; exact below_al (below_alloc _ _) _
 have t:Bx H w.heap.size [.int .i64 a0,.bool an,.slice aa al ac]:=by rw [← j]; exact (bx_new w _ _).alloc _
 have I:Bx H (w.heap.size+1) [.int .i64 0,.bool false,.slice none 0 0,.int .i64 0,.bool false,.slice none 0 0]:=by
  rw [← j]; have h:=bx_new (w.alloc (.cells #[.int .i64 a0,.bool an,.slice aa al ac] 49)) [.int .i64 0,.bool false,.slice none 0 0,.int .i64 0,.bool false,.slice none 0 0] 51; rw [World.size_alloc] at h; exact h
 have Z:Hid (∀ W,Up H W→Bx W w.heap.size [.int .i64 a0,.bool an,.slice aa al ac]∧Bx W (w.heap.size+1) [.int .i64 0,.bool false,.slice none 0 0,.int .i64 0,.bool false,.slice none 0 0]):=fun W hW=>⟨t.below t.lt hW,I.below I.lt hW⟩; clear j; obtain ⟨k0,k1,k2⟩:=t.k3; clear t I
 go_enter Tryz.func59,Tryz.ntmps59
 go_upto_region 1 with fail
 rw [Q.o]
 go_region_with (first
  | (go_at_call 20
     refine (l1Small_any 1 _ (by decide) (by decide)).mono ?_; rintro e G ⟨z,rfl,Y,K⟩; have m:Hid (Up H G):=(Below.refl _ H).drew.trans K; obtain ⟨u,F,A,E,D,rfl⟩:=Y.shape'; have HZ:Hid (NumZ H.heap.size G (.agg #[.int .i64 u,.bool F,.slice A E D]) 1 3):=Y; obtain ⟨M,J⟩:=Z.o G m.o; obtain ⟨j0,j1,j2⟩:=M.k3; obtain ⟨r0,r1,r2,r3,r4,r5⟩:=J.k6; obtain ⟨f0,f1,f2,f3,f4,f5⟩:=J.f6; clear Y K M J))
 all_goals
  try simp only [List.getElem_toArray,List.getElem_cons_succ,List.getElem_cons_zero,Act.put,List.setIfInBounds_toArray,List.set_cons_succ,List.set_cons_zero]
  go_wp2
  have L:=(Z.o G m.o).2; have s:NoInt G (w.heap.size+1):=noInt_of L (by simp); have hk:=keeps6 G (w.heap.size+1) (.int .i64 a0) (.bool an) (.slice aa al ac) (.int .i64 u) (.bool F) (.slice A E D); have T:=(HN.o.below (i.o.trans (m.o.mono i.o.size))).keeps s s hk; have U:=(HZ.o.mono' (B':=B) (n':=1000) (by have:=O.o; have:=i.o.size; omega) (by omega)).keeps s s hk; have S:=set6 (i.o.trans (m.o.mono i.o.size)) (w.heap.size+1) (Nat.le_succ _) (.int .i64 a0) (.bool an) (.slice aa al ac) (.int .i64 u) (.bool F) (.slice A E D); have hZ:=L.put6 (.int .i64 a0) (.bool an) (.slice aa al ac) (.int .i64 u) (.bool F) (.slice A E D); have V:(((((G.setCell ⟨w.heap.size+1,0,none⟩ (.int .i64 a0)).setCell ⟨w.heap.size+1,1,none⟩ (.bool an)).setCell ⟨w.heap.size+1,2,none⟩ (.slice aa al ac)).setCell ⟨w.heap.size+1,3,none⟩ (.int .i64 u)).setCell ⟨w.heap.size+1,4,none⟩ (.bool F)).setCell ⟨w.heap.size+1,5,none⟩ (.slice A E D)=W6 G (w.heap.size+1) (.int .i64 a0) (.bool an) (.slice aa al ac) (.int .i64 u) (.bool F) (.slice A E D):=rfl; rw [V]; generalize W6 G (w.heap.size+1) (.int .i64 a0) (.bool an) (.slice aa al ac) (.int .i64 u) (.bool F) (.slice A E D)=W9 at *; obtain ⟨m0,m1,m2,m3,m4,m5⟩:=hZ.k6; refine bodyPost_ret (v:=.agg #[.int .i64 a0,.bool an,.slice aa al ac,.int .i64 u,.bool F,.slice A E D]) ?_ rfl ⟨_,rfl,⟨a0,an,aa,al,ac,u,F,A,E,D,rfl,T,U⟩,S⟩; simp [results,Tryz.results59,go_sem,m0,m1,m2,m3,m4,m5]
theorem NumZ.isN {B:Nat} {w:World} {z:Value} {x:Int} {n:Nat} (h:NumZ B w z x n):IsN B w z x:=by
 obtain ⟨neg,t,i,j,_⟩:=h; exact ⟨neg,t,i,j⟩
theorem l2Whole_any (B:Nat) (z:Value) (x y:Int) (w:World) (_hBw:B≤w.heap.size) (h:IsQN B w z x y) :
 Calls Tryz.prog 42 #[z] w fun e w'=>e=.returned (.bool (decide (y=1)))∧Up w w':=by
 obtain ⟨K,Q,L,O,M,E,H,F,ql,G,rfl,Z,T⟩:=h; have m:=Hd (isN_one T.isN); clear Z T; obtain ⟨A,j⟩:=exW (w.alloc (.cells #[.int .i64 K,.bool Q,.slice L O M,.int .i64 E,.bool H,.slice F ql G] 51)); have J:=Hd j; have t:Hid (Up w A):=by unfold Hid; rw [← j]; exact below_alloc _ _
 have i:Bx A w.heap.size [.int .i64 K,.bool Q,.slice L O M,.int .i64 E,.bool H,.slice F ql G]:=by rw [← j]; exact bx_new w _ _
 have Y:Hid (∀ W,Up A W→Bx W w.heap.size [.int .i64 K,.bool Q,.slice L O M,.int .i64 E,.bool H,.slice F ql G]):=fun W hW=>i.below i.lt hW; have k3:=i.cell 3; have k4:=i.cell 4; have V:=i.cell 5; simp only [List.getElem?_cons_zero,List.getElem?_cons_succ] at k3 k4 V; clear j i
 go_enter Tryz.func42,Tryz.ntmps42
 go_upto_region 1 with fail
 rw [J.o]
 go_wp2_with fail
 refine (l1IsSmall_ex E H F ql G A).mono ?_; rintro e S ⟨rfl,D⟩; have s:Up A S:=by rw [D]; exact below_alloc _ _
 have u:Hid (Up w S):=t.o.trans (s.mono t.o.size); have U:=Y.o S s; have j3:=U.cell 3; simp only [List.getElem?_cons_zero,List.getElem?_cons_succ] at j3; clear D s U k3 k4 V
 by_cases hz:ql=0
 ·have z:((ql:Int)==0)=true:=by rw [beq_iff_eq]; omega
  have I:Hid ((E==1)=decide (y=1)):=by have h:=m.o; rw [z] at h; exact h
  rw [z]
  go_wp2
  go_ret
  exact ⟨ret_bool I.o,u.o⟩
 have z:((ql:Int)==0)=false:=by rw [beq_eq_false_iff_ne]; omega
 have I:Hid (false=decide (y=1)):=by have h:=m.o; rw [z] at h; exact h
 rw [z]
 go_wp2
 go_ret
 exact ⟨ret_bool I.o,u.o⟩
theorem l2Floor_any (B:Nat) (z:Value) (x y:Int) (w:World) (hBw:B≤w.heap.size) (h:IsQN B w z x y) (hy:y≠0) :
 Calls Tryz.prog 86 #[z] w fun e w'=>∃ z' q r,e=.returned z'∧IsN B w' z' q∧IsDiv x y q r∧Up w w':=by
 have g4:=Hd h; obtain ⟨s,D,t,A,u,q0,qn,qa,ql,qc,rfl,hP,hQ⟩:=h; have HP:=Hd hP; have HQ:=Hd hQ; have Y:=Hd hBw; clear hP hQ hBw; obtain ⟨W0,E⟩:=exW ((w.alloc (.cells #[.int .i64 s,.bool D,.slice t A u,.int .i64 q0,.bool qn,.slice qa ql qc] 51)).alloc (.cells #[.int .i64 0,.bool false,.slice none 0 0] 49)); have d7:=Hd E; have j:Hid (Up w W0):=by
  unfold Hid
  rw [← E]; exact below_al (below_alloc _ _) _
 have S:Bx W0 w.heap.size [.int .i64 s,.bool D,.slice t A u,.int .i64 q0,.bool qn,.slice qa ql qc]:=by rw [← E]; exact (bx_new w _ _).alloc _
 have b3:Bx W0 (w.heap.size+1) [.int .i64 0,.bool false,.slice none 0 0]:=by
  rw [← E]; have h:=bx_new (w.alloc (.cells #[.int .i64 s,.bool D,.slice t A u,.int .i64 q0,.bool qn,.slice qa ql qc] 51)) [.int .i64 0,.bool false,.slice none 0 0] 49; rw [World.size_alloc] at h; exact h
 have HX:Hid (∀ W,Up W0 W→Bx W w.heap.size [.int .i64 s,.bool D,.slice t A u,.int .i64 q0,.bool qn,.slice qa ql qc]∧Bx W (w.heap.size+1) [.int .i64 0,.bool false,.slice none 0 0]):=fun W hW=>⟨S.below S.lt hW,b3.below b3.lt hW⟩; obtain ⟨k0,k1,k2,k3,k4,k5⟩:=S.k6; clear E S b3
 go_enter Tryz.func86,Tryz.ntmps86
 go_upto_region 1 with fail
 rw [d7.o]
 go_wp2_with fail
 have c7:IsQN B W0 (.agg #[.int .i64 s,.bool D,.slice t A u,.int .i64 q0,.bool qn,.slice qa ql qc]) x y:=⟨s,D,t,A,u,q0,qn,qa,ql,qc,rfl,HP.o.below j.o,HQ.o.below j.o⟩; refine (l2Whole_any B _ x y W0 (by have:=Y.o; have:=j.o.size; omega) c7).mono ?_; rintro e U ⟨rfl,Q⟩; have I:=Hd Q; have m:=Hd (j.o.trans (Q.mono j.o.size)); obtain ⟨hb,i⟩:=HX.o U Q; clear k0 k1 k2 k3 k4 k5 c7; obtain ⟨k0,k1,k2,k3,k4,k5⟩:=hb.k6; obtain ⟨r0,r1,r2⟩:=i.k3; obtain ⟨f0,f1,f2⟩:=i.f3; clear Q hb i
 by_cases h1:y=1
 ·have hd:decide (y=1)=true:=decide_eq_true h1; have Z:Hid (IsDiv x y x 0):=by
   unfold Hid
   rw [h1]; exact ⟨by omega,by decide,by decide⟩
  have d5:=Hd (HP.o.below m.o).isN; rw [hd]; clear hd
  go_wp2
  have F:=(HX.o U I.o).2; have G:NoInt U (w.heap.size+1):=noInt_of F (by simp); have a8:=d5.o.keeps G G (Keeps.three U (w.heap.size+1) (.int .i64 s) (.bool D) (.slice t A u)); have a7:=belowSet3 (j.o.trans (I.o.mono j.o.size)) (w.heap.size+1) (Nat.le_succ _) (.int .i64 s) (.bool D) (.slice t A u); have hZ:Bx (((U.setCell ⟨w.heap.size+1,0,none⟩ (.int .i64 s)).setCell ⟨w.heap.size+1,1,none⟩ (.bool D)).setCell ⟨w.heap.size+1,2,none⟩ (.slice t A u)) (w.heap.size+1) [.int .i64 s,.bool D,.slice t A u]:=((F.set 0 _).set 1 _).set 2 _; generalize ((U.setCell ⟨w.heap.size+1,0,none⟩ (.int .i64 s)).setCell ⟨w.heap.size+1,1,none⟩ (.bool D)).setCell ⟨w.heap.size+1,2,none⟩ (.slice t A u)=W9 at *; obtain ⟨m0,m1,m2⟩:=hZ.k3; refine bodyPost_ret (v:=.agg #[.int .i64 s,.bool D,.slice t A u]) ?_ rfl ⟨_,x,0,rfl,a8,Z.o,a7⟩; simp [results,Tryz.results86,go_sem,m0,m1,m2]
 have hd:decide (y=1)=false:=decide_eq_false h1; rw [hd]; clear hd; obtain ⟨b4,t1,d0,e1,h2⟩:=HP.o.below m.o; obtain ⟨T,t2,d1,e2,h6⟩:=HQ.o.below m.o; have c6:Hid (IsZ B U (.agg #[.int .i64 s,.bool D,.slice t A u]) b4 t1∧IsZ B U (.agg #[.int .i64 q0,.bool qn,.slice qa ql qc]) T t2):=⟨d0,d1⟩; have a3:Hid (sg b4 (val t1)=x∧sg T (val t2)=y):=⟨e1,e2⟩; clear d0 d1 e1 e2 r0 r1 r2 f0 f1 f2
 go_wp2_with fail
 refine (l1Div_any B _ _ b4 T t1 t2 _ (by have:=Y.o; have:=m.o.size; omega) c6.o.1 c6.o.2 (by omega) (by omega) (fun h=>hy (by rw [← a3.o.2,h]; cases T<;>rfl))).mono ?_; rintro e w2 ⟨z1,z2,q,r,rfl,⟨hq,hr⟩,a9,i⟩; rw [a3.o.1,a3.o.2] at a9; have Z:=Hd a9; obtain ⟨a0,M,J,L,K,rfl⟩:=hq.shape; obtain ⟨b0,bn,ba,bl,bc,rfl⟩:=hr.shape; obtain ⟨H,O⟩:=exW ((w2.alloc (.cells #[.int .i64 a0,.bool M,.slice J L K] 49)).alloc (.cells #[.int .i64 b0,.bool bn,.slice ba bl bc] 49)); have d8:=Hd O; have a6:Up w2 H:=by rw [← O]; exact below_al (below_alloc _ _) _
 have c9:Bx H w2.heap.size [.int .i64 a0,.bool M,.slice J L K]:=by rw [← O]; exact (bx_new w2 _ _).alloc _
 have V:Hid (Up W0 H):=I.o.trans ((i.trans (a6.mono i.size)).mono I.o.size); have d6:Hid (IsN B H (.agg #[.int .i64 a0,.bool M,.slice J L K]) q):=(hq.below a6).mono (by have:=Y.o; have:=m.o.size; omega); obtain ⟨g0,g1,g2⟩:=c9.k3; have i:=(HX.o H V.o).2; obtain ⟨r0,r1,r2⟩:=i.k3; obtain ⟨f0,f1,f2⟩:=i.f3; clear hq hr a9 O a6 c9 i k0 k1 k2 k3 k4 k5
 go_upto_region 4 with fail
 rw [d8.o]
 go_wp2
 have F:=(HX.o H V.o).2; have G:NoInt H (w.heap.size+1):=noInt_of F (by simp); have a8:=d6.o.keeps G G (Keeps.three H (w.heap.size+1) (.int .i64 a0) (.bool M) (.slice J L K)); have a7:=belowSet3 (j.o.trans (V.o.mono j.o.size)) (w.heap.size+1) (Nat.le_succ _) (.int .i64 a0) (.bool M) (.slice J L K); have hZ:Bx (((H.setCell ⟨w.heap.size+1,0,none⟩ (.int .i64 a0)).setCell ⟨w.heap.size+1,1,none⟩ (.bool M)).setCell ⟨w.heap.size+1,2,none⟩ (.slice J L K)) (w.heap.size+1) [.int .i64 a0,.bool M,.slice J L K]:=((F.set 0 _).set 1 _).set 2 _; generalize ((H.setCell ⟨w.heap.size+1,0,none⟩ (.int .i64 a0)).setCell ⟨w.heap.size+1,1,none⟩ (.bool M)).setCell ⟨w.heap.size+1,2,none⟩ (.slice J L K)=W9 at *; obtain ⟨m0,m1,m2⟩:=hZ.k3; refine bodyPost_ret (v:=.agg #[.int .i64 a0,.bool M,.slice J L K]) ?_ rfl ⟨_,q,r,rfl,a8,Z.o,a7⟩; simp [results,Tryz.results86,go_sem,m0,m1,m2]
theorem ordI_lt (x y:Int):decide (ordI x y<0)=decide (x<y):=by
 unfold ordI
 split
 ·rename_i h; simp [h]
 rename_i h
 split<;>simp [h]
theorem l1Sign_any (B:Nat) (z:Value) (x:Int) (n:Nat) (w:World) (hBw:B≤w.heap.size) (h:NumZ B w z x n) :
 Calls Tryz.prog 31 #[z] w fun e w'=>e=.returned (.int .i64 (ordI x 0))∧Up w w':=by
 obtain ⟨H,L,I,K,J,rfl⟩:=h.shape'; obtain ⟨neg,t,E,hx,_⟩:=h; have A:=Hd E; have F:=Hd hx; have u:=Hd hBw; have i:∀ W,IsZ B W (.agg #[.int .i64 0,.bool false,.slice none 0 0]) false []:=fun W=>⟨(fun x hx=>by cases hx),(fun h=>absurd rfl h),.inr ⟨Nat.zero_le _,rfl⟩⟩; have j:=Hd i; clear E hx hBw i
 go_enter Tryz.func31,Tryz.ntmps31
 go_wp2_with fail
 refine (l1Cmp_any B _ _ neg false t [] _ (by have:=u.o; simp; omega) (A.o.below (below_alloc _ _)) (j.o _)).mono ?_; rintro e G ⟨rfl,m⟩; have D:sg false (val [])=0:=rfl; rw [cmpI_ord neg false t [] A.o.1 (j.o w).1 A.o.2.1 (j.o w).2.1,F.o,D]; have s:Hid (Up w G):=(below_alloc w _).trans (m.mono (by simp)); clear m D
 go_wp2
 go_ret
 exact ⟨rfl,s.o⟩
structure BxL (h:Nat) (W:World) (p0:Int) (pn:Bool) (pa:Option Addr) (pl pc:Nat) (q0:Int) (qn:Bool) (qa:Option Addr) (ql qc:Nat):Prop where
 a:Bx W h [.int .i64 p0,.bool pn,.slice pa pl pc]
 b:Bx W (h+1) [.int .i64 q0,.bool qn,.slice qa ql qc]
 r:Bx W (h+1+1) [.int .i64 0,.bool false,.slice none 0 0,.int .i64 0,.bool false,.slice none 0 0]
theorem BxL.below {h N:Nat} {W W':World} {p0:Int} {pn:Bool} {pa:Option Addr} {pl pc:Nat} {q0:Int} {qn:Bool} {qa:Option Addr} {ql qc:Nat} (m:BxL h W p0 pn pa pl pc q0 qn qa ql qc) (hN:h+3≤N) (hb:Below N W W'):BxL h W' p0 pn pa pl pc q0 qn qa ql qc:=
 ⟨m.a.below (by omega) hb,m.b.below (by omega) hb,m.r.below (by omega) hb⟩
theorem gcd_len2 (ng n2:Bool) (tg t2:List Nat) (x y:Int) (hy:0<y) (htg:isTrim tg) (ho2:okL t2) (vg:sg ng (val tg)=gcdI x y) (v2:sg n2 (val t2)=y) (len2:t2.length≤1000):tg.length≤1000∧tg≠[]:=by
 have i:val tg=Int.gcd x y:=by
  have h:=congrArg Int.natAbs vg; rw [sg_abs] at h; rw [h]; unfold gcdI; simp
 have j:val t2=y.natAbs:=by
  have h:=congrArg Int.natAbs v2; rw [sg_abs] at h; exact h
 have h3:0<Int.gcd x y:=Int.gcd_pos_of_ne_zero_right _ (by omega); have h4:Int.gcd x y≤y.natAbs:=Nat.le_of_dvd (by omega) (Int.natAbs_dvd_natAbs.2 (Int.gcd_dvd_right x y)); refine ⟨?_,?_⟩
 ·have:=lenOfLe tg t2 htg ho2 (by omega); omega
 rintro rfl; simp [val] at i; omega
theorem sg_notR (n:Bool) (v:Nat):sg (!n) v = -sg n v:=by cases n<;>simp [sg]
theorem isLow_neg {x y a b:Int} (h:IsLow (-x) (-y) a b):IsLow x y a b:=by
 obtain ⟨c,c0,i,j,p,g⟩:=h; refine ⟨-c,by omega,by rw [Int.mul_neg]; omega,by rw [Int.mul_neg]; omega,p,?_⟩; rw [Int.natAbs_neg,g,Int.neg_gcd,Int.gcd_neg]
theorem off3 {W:World} {g:Nat} {l:List Value} (h:Bx W g l) {k:Nat} (hk:k≠g) (u0 u1 u2:Value):Bx (((W.setCell ⟨k,0,none⟩ u0).setCell ⟨k,1,none⟩ u1).setCell ⟨k,2,none⟩ u2) g l:=((h.other ⟨k,0,none⟩ hk u0).other ⟨k,1,none⟩ hk u1).other ⟨k,2,none⟩ hk u2
theorem numZ_of {B:Nat} {W:World} {z:Value} {v:Int} (h:IsN B W z v) (t1:List Nat) (ok:okL t1) (hv:v.natAbs≤val t1) (len:t1.length≤1000):NumZ B W z v 1000:=by
 obtain ⟨neg,t,j,i⟩:=h; refine ⟨neg,t,j,i,?_⟩; have m:val t=v.natAbs:=by rw [← i,sg_abs]
 have:=lenOfLe t t1 j.2.1 ok (by omega); omega
theorem abs_le_mul (a c:Int) (hc:c≠0):a.natAbs≤(a*c).natAbs:=by
 rw [Int.natAbs_mul]; exact Nat.le_mul_of_pos_right _ (by omega)
theorem low_len1 {x y a b:Int} {n:Bool} {t:List Nat} (h:IsLow x y a b) (hv:sg n (val t)=x):a.natAbs≤val t:=by
 obtain ⟨c,c0,i,_⟩:=h; have j:val t=x.natAbs:=by rw [← hv,sg_abs]
 rw [j,i]; exact abs_le_mul a c c0
theorem low_len2 {x y a b:Int} {n:Bool} {t:List Nat} (h:IsLow x y a b) (hv:sg n (val t)=y):b.natAbs≤val t:=by
 obtain ⟨c,c0,_,i,_⟩:=h; have j:val t=y.natAbs:=by rw [← hv,sg_abs]
 rw [j,i]; exact abs_le_mul b c c0
theorem l2Make_any (B:Nat) (zp zq:Value) (x y:Int) (w:World) (hBw:B≤w.heap.size) (hp:NumZ B w zp x 1000) (hq:NumZ B w zq y 1000) (hy:y≠0) :
 Calls Tryz.prog 19 #[zp,zq] w fun e w'=>∃ z p q,e=.returned z∧IsQN B w' z p q∧IsLow x y p q∧Up w w':=by
 obtain ⟨p0,pn,pa,pl,pc,rfl⟩:=hp.shape'; obtain ⟨q0,qn,qa,ql,qc,rfl⟩:=hq.shape'; have HP:=Hd hp; have HQ:=Hd hq; have d3:=Hd hBw; clear hp hq hBw; obtain ⟨W0,j6⟩:=exW (((w.alloc (.cells #[.int .i64 p0,.bool pn,.slice pa pl pc] 49)).alloc (.cells #[.int .i64 q0,.bool qn,.slice qa ql qc] 49)).alloc (.cells #[.int .i64 0,.bool false,.slice none 0 0,.int .i64 0,.bool false,.slice none 0 0] 51)); have A3:=Hd j6; have z0:W0.heap.size=w.heap.size+3:=by rw [← j6]; simp
 have u6:=Hd z0; have s9:Hid (Up w W0):=by
  unfold Hid
  rw [← j6]; exact below_al (below_al (below_alloc _ _) _) _
 have HM:Hid (BxL w.heap.size W0 p0 pn pa pl pc q0 qn qa ql qc):=by
  have h1:Bx W0 w.heap.size [.int .i64 p0,.bool pn,.slice pa pl pc]:=by rw [← j6]; exact ((bx_new w _ _).alloc _).alloc _
  have h2:Bx W0 (w.heap.size+1) [.int .i64 q0,.bool qn,.slice qa ql qc]:=by
   rw [← j6]; have h:=bx_new (w.alloc (.cells #[.int .i64 p0,.bool pn,.slice pa pl pc] 49)) [.int .i64 q0,.bool qn,.slice qa ql qc] 49; rw [World.size_alloc] at h; exact h.alloc _
  have h3:Bx W0 (w.heap.size+1+1) [.int .i64 0,.bool false,.slice none 0 0,.int .i64 0,.bool false,.slice none 0 0]:=by
   rw [← j6]; have h:=bx_new ((w.alloc (.cells #[.int .i64 p0,.bool pn,.slice pa pl pc] 49)).alloc (.cells #[.int .i64 q0,.bool qn,.slice qa ql qc] 49)) [.int .i64 0,.bool false,.slice none 0 0,.int .i64 0,.bool false,.slice none 0 0] 51; rw [World.size_alloc,World.size_alloc] at h; exact h
  exact ⟨h1,h2,h3⟩
 obtain ⟨k0,k1,k2⟩:=HM.o.b.k3; clear j6 z0
 go_enter Tryz.func19,Tryz.ntmps19
 go_upto_region 1 with fail
 rw [A3.o]
 go_wp2_with fail
 refine (l1Sign_any B _ y 1000 _ (by have:=d3.o; have:=u6.o; omega) (HQ.o.below s9.o)).mono ?_; rintro e w1 ⟨rfl,r6⟩; have q9:=Hd (HM.o.below (N:=W0.heap.size) (by have:=u6.o; omega) r6); have l7:=Hd (s9.o.trans (r6.mono s9.o.size)); have u7:Hid (w.heap.size+3≤w1.heap.size):=by have:=u6.o; have:=r6.size; show w.heap.size+3≤w1.heap.size; omega
 have y3:=Hd (HP.o.below l7.o); have t9:=Hd (HQ.o.below l7.o); obtain ⟨a0,a1,a2⟩:=q9.o.a.k3; obtain ⟨b0,b1,b2⟩:=q9.o.b.k3; clear r6 k0 k1 k2
 by_cases s5:y<0
 ·have z:decide (ordI y 0<0)=true:=by rw [ordI_lt]; exact decide_eq_true s5
  have d4:Hid (0 < -y):=by show 0 < -y; omega
  have HL:Hid (∀ a b,IsLow (-x) (-y) a b→IsLow x y a b):=fun a b h=>isLow_neg h; obtain ⟨np,tp,z3,vp,lp⟩:=y3.o; have A4:=Hd z3; have y5:Hid (sg (!np) (val tp) = -x∧tp.length≤1000):=⟨by rw [← vp]; exact sg_notR np _,lp⟩; clear z3 vp lp
  go_wp2_with fail
  refine (l1Minus_any B _ np tp w1 A4.o).mono ?_; rintro e w2 ⟨z2,rfl,h9,r7⟩; obtain ⟨M,T,O,S,Q,rfl⟩:=h9.shape; have l1:=q9.o.below (N:=w1.heap.size) u7.o r7; have p5:NoInt w2 w.heap.size:=noInt_of l1.a (by simp); obtain ⟨W3,m6⟩:=exW (((w2.setCell ⟨w.heap.size,0,none⟩ (.int .i64 M)).setCell ⟨w.heap.size,1,none⟩ (.bool T)).setCell ⟨w.heap.size,2,none⟩ (.slice O S Q)); have y7:=Hd m6; have v9:=Keeps.three w2 w.heap.size (.int .i64 M) (.bool T) (.slice O S Q); have i5:Hid (NumZ B W3 (.agg #[.int .i64 M,.bool T,.slice O S Q]) (-x) 1000):=by
   have h:NumZ B w2 (.agg #[.int .i64 M,.bool T,.slice O S Q]) (-x) 1000:=⟨_,_,h9,y5.o.1,y5.o.2⟩; have h2:=h.keeps p5 p5 v9; rw [m6] at h2; exact h2
  have i6:Hid (NumZ B W3 (.agg #[.int .i64 q0,.bool qn,.slice qa ql qc]) y 1000):=by
   have h2:=(t9.o.below r7).keeps p5 p5 v9; rw [m6] at h2; exact h2
  have a9:Hid (Up w W3):=by
   have h:=belowSet3 (l7.o.trans (r7.mono l7.o.size)) w.heap.size leR (.int .i64 M) (.bool T) (.slice O S Q); rw [m6] at h; exact h
  have A:Hid (BxL w.heap.size W3 M T O S Q q0 qn qa ql qc):=by
   have h1:Bx (((w2.setCell ⟨w.heap.size,0,none⟩ (.int .i64 M)).setCell ⟨w.heap.size,1,none⟩ (.bool T)).setCell ⟨w.heap.size,2,none⟩ (.slice O S Q)) w.heap.size [.int .i64 M,.bool T,.slice O S Q]:=((l1.a.set 0 _).set 1 _).set 2 _; have h2:=off3 l1.b (k:=w.heap.size) (by omega) (.int .i64 M) (.bool T) (.slice O S Q); have h3:=off3 l1.r (k:=w.heap.size) (by omega) (.int .i64 M) (.bool T) (.slice O S Q); rw [m6] at h1 h2 h3; exact ⟨h1,h2,h3⟩
  have i7:Hid (w.heap.size+3≤W3.heap.size):=by
   have:=A.o.r.lt
   show w.heap.size+3≤W3.heap.size
   omega
  obtain ⟨c0,c1,c2⟩:=l1.a.k3; obtain ⟨x0,x1,x2⟩:=l1.a.f3; obtain ⟨nq,tq,z5,vq,lq⟩:=i6.o; have A5:=Hd z5; have y6:Hid (sg (!nq) (val tq) = -y∧tq.length≤1000):=⟨by rw [← vq]; exact sg_notR nq _,lq⟩; obtain ⟨V,d1,d2⟩:=A.o.b.k3; clear h9 r7 l1 p5 m6 v9 z5 vq lq a0 a1 a2 b0 b1 b2
  go_upto_region 3 with fail
  rw [y7.o]; clear c0 c1 c2 x0 x1 x2
  go_wp2_with fail
  refine (l1Minus_any B _ nq tq W3 A5.o).mono ?_; rintro e w4 ⟨z4,rfl,w8,Z⟩; obtain ⟨U,Qn,Qa,Ql,Qc,rfl⟩:=w8.shape; have l2:=A.o.below (N:=W3.heap.size) i7.o Z; have p6:NoInt w4 (w.heap.size+1):=noInt_of l2.b (by simp); obtain ⟨J,G⟩:=exW (((w4.setCell ⟨w.heap.size+1,0,none⟩ (.int .i64 U)).setCell ⟨w.heap.size+1,1,none⟩ (.bool Qn)).setCell ⟨w.heap.size+1,2,none⟩ (.slice Qa Ql Qc)); have o0:=Hd G; have w0:=Keeps.three w4 (w.heap.size+1) (.int .i64 U) (.bool Qn) (.slice Qa Ql Qc); have y4:Hid (NumZ B J (.agg #[.int .i64 U,.bool Qn,.slice Qa Ql Qc]) (-y) 1000):=by
   have h:NumZ B w4 (.agg #[.int .i64 U,.bool Qn,.slice Qa Ql Qc]) (-y) 1000:=⟨_,_,w8,y6.o.1,y6.o.2⟩; have h2:=h.keeps p6 p6 w0; rw [G] at h2; exact h2
  have A2:Hid (NumZ B J (.agg #[.int .i64 M,.bool T,.slice O S Q]) (-x) 1000):=by
   have h2:=(i5.o.below Z).keeps p6 p6 w0; rw [G] at h2; exact h2
  have i2:Hid (Up w J):=by
   have h:=belowSet3 (a9.o.trans (Z.mono a9.o.size)) (w.heap.size+1) (Nat.le_succ _) (.int .i64 U) (.bool Qn) (.slice Qa Ql Qc); rw [G] at h; exact h
  have i3:Hid (BxL w.heap.size J M T O S Q U Qn Qa Ql Qc):=by
   have h1:=off3 l2.a (k:=w.heap.size+1) (by omega) (.int .i64 U) (.bool Qn) (.slice Qa Ql Qc); have h2:Bx (((w4.setCell ⟨w.heap.size+1,0,none⟩ (.int .i64 U)).setCell ⟨w.heap.size+1,1,none⟩ (.bool Qn)).setCell ⟨w.heap.size+1,2,none⟩ (.slice Qa Ql Qc)) (w.heap.size+1) [.int .i64 U,.bool Qn,.slice Qa Ql Qc]:=((l2.b.set 0 _).set 1 _).set 2 _; have h3:=off3 l2.r (k:=w.heap.size+1) (by omega) (.int .i64 U) (.bool Qn) (.slice Qa Ql Qc); rw [G] at h1 h2 h3; exact ⟨h1,h2,h3⟩
  have l8:Hid (w.heap.size+3≤J.heap.size):=by
   have:=i3.o.r.lt
   show w.heap.size+3≤J.heap.size
   omega
  obtain ⟨c0,c1,c2⟩:=l2.b.k3; obtain ⟨x0,x1,x2⟩:=l2.b.f3; clear w8 Z l2 p6 G w0 V d1 d2
  go_upto_region 4 with fail
  rw [o0.o]; clear c0 c1 c2 x0 x1 x2; obtain ⟨a0,a1,a2⟩:=i3.o.a.k3; obtain ⟨b0,b1,b2⟩:=i3.o.b.k3; clear i5 i6 a9 A i7 y7
  go_wp2_with fail
  refine (l1IsSmall_ex U Qn Qa Ql Qc J).mono ?_; rintro e w3 ⟨rfl,p9⟩; have b8:Up J w3:=by rw [p9]; exact below_alloc _ _
  have A:=Hd (i3.o.below (N:=J.heap.size) l8.o b8); have a9:=Hd (i2.o.trans (b8.mono i2.o.size)); have i5:=Hd (A2.o.below b8); have i6:=Hd (y4.o.below b8); have i7:Hid (w.heap.size+3≤w3.heap.size):=Nat.le_trans l8.o b8.size; have i4:=Hd (isN_one y4.o.isN); clear p9 b8 a0 a1 a2 b0 b1 b2; obtain ⟨a0,a1,a2⟩:=A.o.a.k3; obtain ⟨b0,b1,b2⟩:=A.o.b.k3
  by_cases h1 : -y=1
  ·have i:=i4.o; rw [decide_eq_true h1,Bool.and_eq_true] at i; obtain ⟨z1,z2⟩:=i; rw [z1]; have E:Hid (IsLow x y (-x) (-y)):=HL.o _ _ (isLow_one d4.o (by rw [h1]; simp)); obtain ⟨r0,r1,r2,r3,r4,r5⟩:=A.o.r.k6; obtain ⟨f0,f1,f2,f3,f4,f5⟩:=A.o.r.f6
   go_wp2
   have j:NoInt w3 (w.heap.size+1+1):=noInt_of A.o.r (by simp); have hk:=keeps6 w3 (w.heap.size+1+1) (.int .i64 M) (.bool T) (.slice O S Q) (.int .i64 U) (.bool Qn) (.slice Qa Ql Qc); have d6:=i5.o.keeps j j hk; have d7:=i6.o.keeps j j hk; have d5:=set6 a9.o (w.heap.size+1+1) (by omega) (.int .i64 M) (.bool T) (.slice O S Q) (.int .i64 U) (.bool Qn) (.slice Qa Ql Qc); have hZ:=A.o.r.put6 (.int .i64 M) (.bool T) (.slice O S Q) (.int .i64 U) (.bool Qn) (.slice Qa Ql Qc); have d8:((((((w3.setCell ⟨w.heap.size+1+1,0,none⟩ (.int .i64 M)).setCell ⟨w.heap.size+1+1,1,none⟩ (.bool T)).setCell ⟨w.heap.size+1+1,2,none⟩ (.slice O S Q)).setCell ⟨w.heap.size+1+1,3,none⟩ (.int .i64 U)).setCell ⟨w.heap.size+1+1,4,none⟩ (.bool Qn)).setCell ⟨w.heap.size+1+1,5,none⟩ (.slice Qa Ql Qc))=W6 w3 (w.heap.size+1+1) (.int .i64 M) (.bool T) (.slice O S Q) (.int .i64 U) (.bool Qn) (.slice Qa Ql Qc):=rfl; rw [d8]; generalize W6 w3 (w.heap.size+1+1) (.int .i64 M) (.bool T) (.slice O S Q) (.int .i64 U) (.bool Qn) (.slice Qa Ql Qc)=W9 at *; obtain ⟨m0,m1,m2,m3,m4,m5⟩:=hZ.k6; refine bodyPost_ret (v:=.agg #[.int .i64 M,.bool T,.slice O S Q,.int .i64 U,.bool Qn,.slice Qa Ql Qc]) ?_ rfl ⟨_,_,_,rfl,⟨M,T,O,S,Q,U,Qn,Qa,Ql,Qc,rfl,d6,d7⟩,E.o,d5⟩; simp [results,Tryz.results19,go_sem,m0,m1,m2,m3,m4,m5]
  have i:=i4.o; rw [decide_eq_false h1] at i
  by_cases hz:Ql=0
  case' pos=>
   have z1:((Ql:Int)==0)=true:=by rw [beq_iff_eq]; omega
   have z2:(U==1)=false:=by rw [z1] at i; exact i
  case' neg=>
   have z1:((Ql:Int)==0)=false:=by rw [beq_eq_false_iff_ne]; omega
  all_goals
   rw [z1]; clear i hz
   go_wp2_with fail
   obtain ⟨n1,t1,q3,v1,e6⟩:=i5.o; obtain ⟨n2,t2,h9,v2,a3⟩:=i6.o; have g9:=Hd (And.intro q3 h9); have D:=Hd (And.intro v1 v2); clear q3 h9 v1 v2; refine (l1Gcd_any B _ _ n1 n2 t1 t2 1000 _ (by have:=d3.o; have:=a9.o.size; omega) g9.o.1 g9.o.2 e6 a3 (by omega)).mono ?_; rintro e w4 ⟨zg,rfl,hg,Z⟩; rw [D.o.1,D.o.2] at hg; obtain ⟨g0,gn,ga,gl,gc,rfl⟩:=hg.shape; obtain ⟨J,G⟩:=exW (w4.alloc (.cells #[.int .i64 g0,.bool gn,.slice ga gl gc] 49)); have o0:=Hd G; have j7:Up w4 J:=by rw [← G]; exact below_alloc _ _
   have h8:Bx J w4.heap.size [.int .i64 g0,.bool gn,.slice ga gl gc]:=by rw [← G]; exact bx_new w4 _ _
   have F:Up w3 J:=Z.trans (j7.mono Z.size); have i3:=Hd (A.o.below (N:=w3.heap.size) i7.o F); have i2:=Hd (a9.o.trans (F.mono a9.o.size)); have l8:Hid (w.heap.size+3≤w4.heap.size):=Nat.le_trans i7.o Z.size; have m9:=Hd (hg.below j7); have o3:=Hd (And.intro (g9.o.1.below F) (g9.o.2.below F)); have j3:Hid (∀ W,Up J W→Bx W w4.heap.size [.int .i64 g0,.bool gn,.slice ga gl gc]):=fun W hW=>h8.below h8.lt hW; obtain ⟨g1,g2,g3⟩:=h8.k3; clear hg G Z j7 h8 F a0 a1 a2 b0 b1 b2
   go_upto_region 8 with fail
   rw [o0.o]; refine (l1IsSmall_ex g0 gn ga gl gc J).mono ?_; rintro e w6 ⟨rfl,q1⟩; have u:Up J w6:=by rw [q1]; exact below_alloc _ _
   have n7:Hid (w.heap.size+3≤J.heap.size):=Nat.le_trans l8.o (Nat.le_of_lt (j3.o J (Below.refl _ _)).lt); have H:=Hd (i3.o.below (N:=J.heap.size) n7.o u); have c9:=Hd (i2.o.trans (u.mono i2.o.size)); have t5:=Hd (m9.o.below u); have I:=Hd (And.intro (o3.o.1.below u) (o3.o.2.below u)); have n0:=Hd (isN_one m9.o); have q2:=j3.o w6 u; obtain ⟨v6,v7,v8⟩:=q2.k3; have n6:Hid (w.heap.size+3≤w6.heap.size):=Nat.le_trans n7.o u.size; have n3:Hid (∀ W,Up w6 W→Bx W w4.heap.size [.int .i64 g0,.bool gn,.slice ga gl gc]):=fun W hW=>j3.o W ((show Up J w6 from u).trans (hW.mono u.size)); clear q1 u q2 g1 g2 g3; obtain ⟨a0,a1,a2⟩:=H.o.a.k3; obtain ⟨b0,b1,b2⟩:=H.o.b.k3
   by_cases l0:gcdI (-x) (-y)=1
   ·have i:=n0.o; rw [decide_eq_true l0,Bool.and_eq_true] at i; obtain ⟨y1,y2⟩:=i; rw [y1]; have t8:Hid (NumZ B w6 (.agg #[.int .i64 M,.bool T,.slice O S Q]) (-x) 1000):=⟨_,_,I.o.1,D.o.1,e6⟩; have u5:Hid (NumZ B w6 (.agg #[.int .i64 U,.bool Qn,.slice Qa Ql Qc]) (-y) 1000):=⟨_,_,I.o.2,D.o.2,a3⟩; have E:Hid (IsLow x y (-x) (-y)):=HL.o _ _ (isLow_one d4.o (by unfold gcdI at l0; omega)); clear y1; obtain ⟨r0,r1,r2,r3,r4,r5⟩:=H.o.r.k6; obtain ⟨f0,f1,f2,f3,f4,f5⟩:=H.o.r.f6
    go_wp2
    have j:NoInt w6 (w.heap.size+1+1):=noInt_of H.o.r (by simp); have hk:=keeps6 w6 (w.heap.size+1+1) (.int .i64 M) (.bool T) (.slice O S Q) (.int .i64 U) (.bool Qn) (.slice Qa Ql Qc); have d6:=t8.o.keeps j j hk; have d7:=u5.o.keeps j j hk; have d5:=set6 c9.o (w.heap.size+1+1) (by omega) (.int .i64 M) (.bool T) (.slice O S Q) (.int .i64 U) (.bool Qn) (.slice Qa Ql Qc); have hZ:=H.o.r.put6 (.int .i64 M) (.bool T) (.slice O S Q) (.int .i64 U) (.bool Qn) (.slice Qa Ql Qc); have d8:((((((w6.setCell ⟨w.heap.size+1+1,0,none⟩ (.int .i64 M)).setCell ⟨w.heap.size+1+1,1,none⟩ (.bool T)).setCell ⟨w.heap.size+1+1,2,none⟩ (.slice O S Q)).setCell ⟨w.heap.size+1+1,3,none⟩ (.int .i64 U)).setCell ⟨w.heap.size+1+1,4,none⟩ (.bool Qn)).setCell ⟨w.heap.size+1+1,5,none⟩ (.slice Qa Ql Qc))=W6 w6 (w.heap.size+1+1) (.int .i64 M) (.bool T) (.slice O S Q) (.int .i64 U) (.bool Qn) (.slice Qa Ql Qc):=rfl; rw [d8]; generalize W6 w6 (w.heap.size+1+1) (.int .i64 M) (.bool T) (.slice O S Q) (.int .i64 U) (.bool Qn) (.slice Qa Ql Qc)=W9 at *; obtain ⟨m0,m1,m2,m3,m4,m5⟩:=hZ.k6; refine bodyPost_ret (v:=.agg #[.int .i64 M,.bool T,.slice O S Q,.int .i64 U,.bool Qn,.slice Qa Ql Qc]) ?_ rfl ⟨_,_,_,rfl,⟨M,T,O,S,Q,U,Qn,Qa,Ql,Qc,rfl,d6,d7⟩,E.o,d5⟩; simp [results,Tryz.results19,go_sem,m0,m1,m2,m3,m4,m5]
   have i:=n0.o; rw [decide_eq_false l0] at i; obtain ⟨ng,tg,l5,vg⟩:=t5.o; have o5:=Hd l5; have n8:=Hd vg; have K:Hid (tg.length≤1000∧tg≠[]):=gcd_len2 ng n2 tg t2 (-x) (-y) d4.o l5.2.1 I.o.2.1 vg D.o.2 a3; clear l5 vg
   by_cases hz:gl=0
   case' pos=>
    have y1:((gl:Int)==0)=true:=by rw [beq_iff_eq]; omega
    have y2:(g0==1)=false:=by rw [y1] at i; exact i
   case' neg=>
    have y1:((gl:Int)==0)=false:=by rw [beq_eq_false_iff_ne]; omega
   all_goals
    rw [y1]; clear i hz
    go_wp2_with fail
    refine (l1Div_any B _ _ n1 ng t1 tg _ (by have:=d3.o; have:=c9.o.size; omega) I.o.1 o5.o (by omega) (by have:=K.o.1; omega) K.o.2).mono ?_; rintro e w7 ⟨za,zr,l6,x5,rfl,⟨l3,p7⟩,k7,j8⟩; rw [D.o.1,n8.o] at k7; have t3:=Hd k7; obtain ⟨V,dn,da,dl,dc,rfl⟩:=l3.shape; obtain ⟨e0,en,ea,el,ec,rfl⟩:=p7.shape; obtain ⟨W8,h6⟩:=exW ((w7.alloc (.cells #[.int .i64 V,.bool dn,.slice da dl dc] 49)).alloc (.cells #[.int .i64 e0,.bool en,.slice ea el ec] 49)); have v3:=Hd h6; have j9:Up w7 W8:=by rw [← h6]; exact below_al (below_alloc _ _) _
    have b7:Bx W8 w7.heap.size [.int .i64 V,.bool dn,.slice da dl dc]:=by rw [← h6]; exact (bx_new w7 _ _).alloc _
    have s:Up w6 W8:=j8.trans (j9.mono j8.size); have g8:=Hd (H.o.below (N:=w6.heap.size) n6.o s); have g7:=Hd (c9.o.trans (s.mono c9.o.size)); have u9:Hid (w.heap.size+3≤W8.heap.size):=Nat.le_trans n6.o s.size; have o4:=Hd (And.intro (I.o.2.below s) (o5.o.below s)); have t7:Hid (IsN B W8 (.agg #[.int .i64 V,.bool dn,.slice da dl dc]) l6):=(l3.below j9).mono (by have:=d3.o; have:=c9.o.size; omega); have s7:Hid (∀ W,Up W8 W→Bx W w7.heap.size [.int .i64 V,.bool dn,.slice da dl dc]):=fun W hW=>b7.below b7.lt hW; have h7:=n3.o W8 s; have i8:=h7.cell 0; have i9:=h7.cell 1; have j1:=h7.cell 2; have o6:=g8.o.b.cell 0; have o7:=g8.o.b.cell 1; have o8:=g8.o.b.cell 2; simp only [List.getElem?_cons_zero,List.getElem?_cons_succ] at i8 i9 j1 o6 o7 o8; clear l3 p7 k7 j8 h6 j9 b7 s h7 a0 a1 a2 b0 b1 b2 v6 v7 v8
    go_upto_region 10 with fail
    rw [v3.o]
    go_wp2_with fail
    refine (l1Div_any B _ _ n2 ng t2 tg W8 (by have:=d3.o; have:=g7.o.size; omega) o4.o.1 o4.o.2 (by omega) (by have:=K.o.1; omega) K.o.2).mono ?_; rintro e w9 ⟨zb,zs,q5,x6,rfl,⟨l4,p8⟩,k9,k5⟩; rw [D.o.2,n8.o] at k9; have j4:=Hd (low_of_div (-x) (-y) (gcdI (-x) (-y)) l6 x5 q5 x6 (by have:=d4.o; omega) (by rw [if_neg (by have:=d4.o; omega)]) t3.o k9); obtain ⟨i0,iN,ia,il,ic,rfl⟩:=l4.shape; obtain ⟨j0,jn,ja,jl,jc,rfl⟩:=p8.shape; obtain ⟨m,Y⟩:=exW ((w9.alloc (.cells #[.int .i64 i0,.bool iN,.slice ia il ic] 49)).alloc (.cells #[.int .i64 j0,.bool jn,.slice ja jl jc] 49)); have n9:=Hd Y; have d9:Up w9 m:=by rw [← Y]; exact below_al (below_alloc _ _) _
    have p4:Bx m w9.heap.size [.int .i64 i0,.bool iN,.slice ia il ic]:=by rw [← Y]; exact (bx_new w9 _ _).alloc _
    have t:Up W8 m:=k5.trans (d9.mono k5.size); have L:=Hd (g8.o.below (N:=W8.heap.size) u9.o t); have m8:=Hd (g7.o.trans (t.mono g7.o.size)); have n4:Hid (NumZ B m (.agg #[.int .i64 V,.bool dn,.slice da dl dc]) l6 1000):=numZ_of (t7.o.below t) t1 I.o.1.1 (low_len1 j4.o D.o.1) e6; have n5:Hid (NumZ B m (.agg #[.int .i64 i0,.bool iN,.slice ia il ic]) q5 1000):=numZ_of ((l4.below d9).mono (by have:=d3.o; have:=g7.o.size; omega)) t2 I.o.2.1 (low_len2 j4.o D.o.2) a3; have E:=Hd (HL.o _ _ j4.o); have b7:=s7.o m t; obtain ⟨u0,u1,u2⟩:=b7.k3; obtain ⟨v0,v1,v2⟩:=p4.k3; clear l4 p8 k9 k5 Y d9 p4 t b7 o6 o7 o8 i8 i9 j1
    go_upto_region 11 with fail
    rw [n9.o]; obtain ⟨r0,r1,r2,r3,r4,r5⟩:=L.o.r.k6; obtain ⟨f0,f1,f2,f3,f4,f5⟩:=L.o.r.f6
    go_wp2
    have j:NoInt m (w.heap.size+1+1):=noInt_of L.o.r (by simp); have hk:=keeps6 m (w.heap.size+1+1) (.int .i64 V) (.bool dn) (.slice da dl dc) (.int .i64 i0) (.bool iN) (.slice ia il ic); have d6:=n4.o.keeps j j hk; have d7:=n5.o.keeps j j hk; have d5:=set6 m8.o (w.heap.size+1+1) (by omega) (.int .i64 V) (.bool dn) (.slice da dl dc) (.int .i64 i0) (.bool iN) (.slice ia il ic); have hZ:=L.o.r.put6 (.int .i64 V) (.bool dn) (.slice da dl dc) (.int .i64 i0) (.bool iN) (.slice ia il ic); have d8:((((((m.setCell ⟨w.heap.size+1+1,0,none⟩ (.int .i64 V)).setCell ⟨w.heap.size+1+1,1,none⟩ (.bool dn)).setCell ⟨w.heap.size+1+1,2,none⟩ (.slice da dl dc)).setCell ⟨w.heap.size+1+1,3,none⟩ (.int .i64 i0)).setCell ⟨w.heap.size+1+1,4,none⟩ (.bool iN)).setCell ⟨w.heap.size+1+1,5,none⟩ (.slice ia il ic))=W6 m (w.heap.size+1+1) (.int .i64 V) (.bool dn) (.slice da dl dc) (.int .i64 i0) (.bool iN) (.slice ia il ic):=rfl; rw [d8]; generalize W6 m (w.heap.size+1+1) (.int .i64 V) (.bool dn) (.slice da dl dc) (.int .i64 i0) (.bool iN) (.slice ia il ic)=W9 at *; obtain ⟨m0,m1,m2,m3,m4,m5⟩:=hZ.k6; refine bodyPost_ret (v:=.agg #[.int .i64 V,.bool dn,.slice da dl dc,.int .i64 i0,.bool iN,.slice ia il ic]) ?_ rfl ⟨_,_,_,rfl,⟨V,dn,da,dl,dc,i0,iN,ia,il,ic,rfl,d6,d7⟩,E.o,d5⟩; simp [results,Tryz.results19,go_sem,m0,m1,m2,m3,m4,m5]
 have z:decide (ordI y 0<0)=false:=by rw [ordI_lt]; exact decide_eq_false s5
 have d4:Hid (0<y):=by show 0<y; omega
 have HL:Hid (∀ a b,IsLow x y a b→IsLow x y a b):=fun _ _ h=>h
 go_wp2_with fail
 refine (l1IsSmall_ex q0 qn qa ql qc w1).mono ?_; rintro e w3 ⟨rfl,p9⟩; have b8:Up w1 w3:=by rw [p9]; exact below_alloc _ _
 have A:=Hd (q9.o.below (N:=w1.heap.size) u7.o b8); have a9:=Hd (l7.o.trans (b8.mono l7.o.size)); have i5:=Hd (y3.o.below b8); have i6:=Hd (t9.o.below b8); have i7:Hid (w.heap.size+3≤w3.heap.size):=Nat.le_trans u7.o b8.size; have i4:=Hd (isN_one t9.o.isN); clear p9 b8 a0 a1 a2 b0 b1 b2; obtain ⟨a0,a1,a2⟩:=A.o.a.k3; obtain ⟨b0,b1,b2⟩:=A.o.b.k3
 by_cases h1:y=1
 ·have i:=i4.o; rw [decide_eq_true h1,Bool.and_eq_true] at i; obtain ⟨z1,z2⟩:=i; rw [z1]; have E:Hid (IsLow x y (x) (y)):=HL.o _ _ (isLow_one d4.o (by rw [h1]; simp)); obtain ⟨r0,r1,r2,r3,r4,r5⟩:=A.o.r.k6; obtain ⟨f0,f1,f2,f3,f4,f5⟩:=A.o.r.f6
  go_wp2
  have j:NoInt w3 (w.heap.size+1+1):=noInt_of A.o.r (by simp); have hk:=keeps6 w3 (w.heap.size+1+1) (.int .i64 p0) (.bool pn) (.slice pa pl pc) (.int .i64 q0) (.bool qn) (.slice qa ql qc); have d6:=i5.o.keeps j j hk; have d7:=i6.o.keeps j j hk; have d5:=set6 a9.o (w.heap.size+1+1) (by omega) (.int .i64 p0) (.bool pn) (.slice pa pl pc) (.int .i64 q0) (.bool qn) (.slice qa ql qc); have hZ:=A.o.r.put6 (.int .i64 p0) (.bool pn) (.slice pa pl pc) (.int .i64 q0) (.bool qn) (.slice qa ql qc); have d8:((((((w3.setCell ⟨w.heap.size+1+1,0,none⟩ (.int .i64 p0)).setCell ⟨w.heap.size+1+1,1,none⟩ (.bool pn)).setCell ⟨w.heap.size+1+1,2,none⟩ (.slice pa pl pc)).setCell ⟨w.heap.size+1+1,3,none⟩ (.int .i64 q0)).setCell ⟨w.heap.size+1+1,4,none⟩ (.bool qn)).setCell ⟨w.heap.size+1+1,5,none⟩ (.slice qa ql qc))=W6 w3 (w.heap.size+1+1) (.int .i64 p0) (.bool pn) (.slice pa pl pc) (.int .i64 q0) (.bool qn) (.slice qa ql qc):=rfl; rw [d8]; generalize W6 w3 (w.heap.size+1+1) (.int .i64 p0) (.bool pn) (.slice pa pl pc) (.int .i64 q0) (.bool qn) (.slice qa ql qc)=W9 at *; obtain ⟨m0,m1,m2,m3,m4,m5⟩:=hZ.k6; refine bodyPost_ret (v:=.agg #[.int .i64 p0,.bool pn,.slice pa pl pc,.int .i64 q0,.bool qn,.slice qa ql qc]) ?_ rfl ⟨_,_,_,rfl,⟨p0,pn,pa,pl,pc,q0,qn,qa,ql,qc,rfl,d6,d7⟩,E.o,d5⟩; simp [results,Tryz.results19,go_sem,m0,m1,m2,m3,m4,m5]
 have i:=i4.o; rw [decide_eq_false h1] at i
 by_cases hz:ql=0
 case' pos=>
  have z1:((ql:Int)==0)=true:=by rw [beq_iff_eq]; omega
  have z2:(q0==1)=false:=by rw [z1] at i; exact i
 case' neg=>
  have z1:((ql:Int)==0)=false:=by rw [beq_eq_false_iff_ne]; omega
 all_goals
  rw [z1]; clear i hz
  go_wp2_with fail
  obtain ⟨n1,t1,q3,v1,e6⟩:=i5.o; obtain ⟨n2,t2,h9,v2,a3⟩:=i6.o; have g9:=Hd (And.intro q3 h9); have D:=Hd (And.intro v1 v2); clear q3 h9 v1 v2; refine (l1Gcd_any B _ _ n1 n2 t1 t2 1000 _ (by have:=d3.o; have:=a9.o.size; omega) g9.o.1 g9.o.2 e6 a3 (by omega)).mono ?_; rintro e w4 ⟨zg,rfl,hg,Z⟩; rw [D.o.1,D.o.2] at hg; obtain ⟨g0,gn,ga,gl,gc,rfl⟩:=hg.shape; obtain ⟨J,G⟩:=exW (w4.alloc (.cells #[.int .i64 g0,.bool gn,.slice ga gl gc] 49)); have o0:=Hd G; have j7:Up w4 J:=by rw [← G]; exact below_alloc _ _
  have h8:Bx J w4.heap.size [.int .i64 g0,.bool gn,.slice ga gl gc]:=by rw [← G]; exact bx_new w4 _ _
  have F:Up w3 J:=Z.trans (j7.mono Z.size); have i3:=Hd (A.o.below (N:=w3.heap.size) i7.o F); have i2:=Hd (a9.o.trans (F.mono a9.o.size)); have l8:Hid (w.heap.size+3≤w4.heap.size):=Nat.le_trans i7.o Z.size; have m9:=Hd (hg.below j7); have o3:=Hd (And.intro (g9.o.1.below F) (g9.o.2.below F)); have j3:Hid (∀ W,Up J W→Bx W w4.heap.size [.int .i64 g0,.bool gn,.slice ga gl gc]):=fun W hW=>h8.below h8.lt hW; obtain ⟨g1,g2,g3⟩:=h8.k3; clear hg G Z j7 h8 F a0 a1 a2 b0 b1 b2
  go_upto_region 8 with fail
  rw [o0.o]; refine (l1IsSmall_ex g0 gn ga gl gc J).mono ?_; rintro e w6 ⟨rfl,q1⟩; have u:Up J w6:=by rw [q1]; exact below_alloc _ _
  have n7:Hid (w.heap.size+3≤J.heap.size):=Nat.le_trans l8.o (Nat.le_of_lt (j3.o J (Below.refl _ _)).lt); have H:=Hd (i3.o.below (N:=J.heap.size) n7.o u); have c9:=Hd (i2.o.trans (u.mono i2.o.size)); have t5:=Hd (m9.o.below u); have I:=Hd (And.intro (o3.o.1.below u) (o3.o.2.below u)); have n0:=Hd (isN_one m9.o); have q2:=j3.o w6 u; obtain ⟨v6,v7,v8⟩:=q2.k3; have n6:Hid (w.heap.size+3≤w6.heap.size):=Nat.le_trans n7.o u.size; have n3:Hid (∀ W,Up w6 W→Bx W w4.heap.size [.int .i64 g0,.bool gn,.slice ga gl gc]):=fun W hW=>j3.o W ((show Up J w6 from u).trans (hW.mono u.size)); clear q1 u q2 g1 g2 g3; obtain ⟨a0,a1,a2⟩:=H.o.a.k3; obtain ⟨b0,b1,b2⟩:=H.o.b.k3
  by_cases l0:gcdI (x) (y)=1
  ·have i:=n0.o; rw [decide_eq_true l0,Bool.and_eq_true] at i; obtain ⟨y1,y2⟩:=i; rw [y1]; have t8:Hid (NumZ B w6 (.agg #[.int .i64 p0,.bool pn,.slice pa pl pc]) (x) 1000):=⟨_,_,I.o.1,D.o.1,e6⟩; have u5:Hid (NumZ B w6 (.agg #[.int .i64 q0,.bool qn,.slice qa ql qc]) (y) 1000):=⟨_,_,I.o.2,D.o.2,a3⟩; have E:Hid (IsLow x y (x) (y)):=HL.o _ _ (isLow_one d4.o (by unfold gcdI at l0; omega)); clear y1; obtain ⟨r0,r1,r2,r3,r4,r5⟩:=H.o.r.k6; obtain ⟨f0,f1,f2,f3,f4,f5⟩:=H.o.r.f6
   go_wp2
   have j:NoInt w6 (w.heap.size+1+1):=noInt_of H.o.r (by simp); have hk:=keeps6 w6 (w.heap.size+1+1) (.int .i64 p0) (.bool pn) (.slice pa pl pc) (.int .i64 q0) (.bool qn) (.slice qa ql qc); have d6:=t8.o.keeps j j hk; have d7:=u5.o.keeps j j hk; have d5:=set6 c9.o (w.heap.size+1+1) (by omega) (.int .i64 p0) (.bool pn) (.slice pa pl pc) (.int .i64 q0) (.bool qn) (.slice qa ql qc); have hZ:=H.o.r.put6 (.int .i64 p0) (.bool pn) (.slice pa pl pc) (.int .i64 q0) (.bool qn) (.slice qa ql qc); have d8:((((((w6.setCell ⟨w.heap.size+1+1,0,none⟩ (.int .i64 p0)).setCell ⟨w.heap.size+1+1,1,none⟩ (.bool pn)).setCell ⟨w.heap.size+1+1,2,none⟩ (.slice pa pl pc)).setCell ⟨w.heap.size+1+1,3,none⟩ (.int .i64 q0)).setCell ⟨w.heap.size+1+1,4,none⟩ (.bool qn)).setCell ⟨w.heap.size+1+1,5,none⟩ (.slice qa ql qc))=W6 w6 (w.heap.size+1+1) (.int .i64 p0) (.bool pn) (.slice pa pl pc) (.int .i64 q0) (.bool qn) (.slice qa ql qc):=rfl; rw [d8]; generalize W6 w6 (w.heap.size+1+1) (.int .i64 p0) (.bool pn) (.slice pa pl pc) (.int .i64 q0) (.bool qn) (.slice qa ql qc)=W9 at *; obtain ⟨m0,m1,m2,m3,m4,m5⟩:=hZ.k6; refine bodyPost_ret (v:=.agg #[.int .i64 p0,.bool pn,.slice pa pl pc,.int .i64 q0,.bool qn,.slice qa ql qc]) ?_ rfl ⟨_,_,_,rfl,⟨p0,pn,pa,pl,pc,q0,qn,qa,ql,qc,rfl,d6,d7⟩,E.o,d5⟩; simp [results,Tryz.results19,go_sem,m0,m1,m2,m3,m4,m5]
  have i:=n0.o; rw [decide_eq_false l0] at i; obtain ⟨ng,tg,l5,vg⟩:=t5.o; have o5:=Hd l5; have n8:=Hd vg; have K:Hid (tg.length≤1000∧tg≠[]):=gcd_len2 ng n2 tg t2 (x) (y) d4.o l5.2.1 I.o.2.1 vg D.o.2 a3; clear l5 vg
  by_cases hz:gl=0
  case' pos=>
   have y1:((gl:Int)==0)=true:=by rw [beq_iff_eq]; omega
   have y2:(g0==1)=false:=by rw [y1] at i; exact i
  case' neg=>
   have y1:((gl:Int)==0)=false:=by rw [beq_eq_false_iff_ne]; omega
  all_goals
   rw [y1]; clear i hz
   go_wp2_with fail
   refine (l1Div_any B _ _ n1 ng t1 tg _ (by have:=d3.o; have:=c9.o.size; omega) I.o.1 o5.o (by omega) (by have:=K.o.1; omega) K.o.2).mono ?_; rintro e w7 ⟨za,zr,l6,x5,rfl,⟨l3,p7⟩,k7,j8⟩; rw [D.o.1,n8.o] at k7; have t3:=Hd k7; obtain ⟨V,dn,da,dl,dc,rfl⟩:=l3.shape; obtain ⟨e0,en,ea,el,ec,rfl⟩:=p7.shape; obtain ⟨W8,h6⟩:=exW ((w7.alloc (.cells #[.int .i64 V,.bool dn,.slice da dl dc] 49)).alloc (.cells #[.int .i64 e0,.bool en,.slice ea el ec] 49)); have v3:=Hd h6; have j9:Up w7 W8:=by rw [← h6]; exact below_al (below_alloc _ _) _
   have b7:Bx W8 w7.heap.size [.int .i64 V,.bool dn,.slice da dl dc]:=by rw [← h6]; exact (bx_new w7 _ _).alloc _
   have s:Up w6 W8:=j8.trans (j9.mono j8.size); have g8:=Hd (H.o.below (N:=w6.heap.size) n6.o s); have g7:=Hd (c9.o.trans (s.mono c9.o.size)); have u9:Hid (w.heap.size+3≤W8.heap.size):=Nat.le_trans n6.o s.size; have o4:=Hd (And.intro (I.o.2.below s) (o5.o.below s)); have t7:Hid (IsN B W8 (.agg #[.int .i64 V,.bool dn,.slice da dl dc]) l6):=(l3.below j9).mono (by have:=d3.o; have:=c9.o.size; omega); have s7:Hid (∀ W,Up W8 W→Bx W w7.heap.size [.int .i64 V,.bool dn,.slice da dl dc]):=fun W hW=>b7.below b7.lt hW; have h7:=n3.o W8 s; have i8:=h7.cell 0; have i9:=h7.cell 1; have j1:=h7.cell 2; have o6:=g8.o.b.cell 0; have o7:=g8.o.b.cell 1; have o8:=g8.o.b.cell 2; simp only [List.getElem?_cons_zero,List.getElem?_cons_succ] at i8 i9 j1 o6 o7 o8; clear l3 p7 k7 j8 h6 j9 b7 s h7 a0 a1 a2 b0 b1 b2 v6 v7 v8
   go_upto_region 10 with fail
   rw [v3.o]
   go_wp2_with fail
   refine (l1Div_any B _ _ n2 ng t2 tg W8 (by have:=d3.o; have:=g7.o.size; omega) o4.o.1 o4.o.2 (by omega) (by have:=K.o.1; omega) K.o.2).mono ?_; rintro e w9 ⟨zb,zs,q5,x6,rfl,⟨l4,p8⟩,k9,k5⟩; rw [D.o.2,n8.o] at k9; have j4:=Hd (low_of_div (x) (y) (gcdI (x) (y)) l6 x5 q5 x6 (by have:=d4.o; omega) (by rw [if_neg (by have:=d4.o; omega)]) t3.o k9); obtain ⟨i0,iN,ia,il,ic,rfl⟩:=l4.shape; obtain ⟨j0,jn,ja,jl,jc,rfl⟩:=p8.shape; obtain ⟨m,Y⟩:=exW ((w9.alloc (.cells #[.int .i64 i0,.bool iN,.slice ia il ic] 49)).alloc (.cells #[.int .i64 j0,.bool jn,.slice ja jl jc] 49)); have n9:=Hd Y; have d9:Up w9 m:=by rw [← Y]; exact below_al (below_alloc _ _) _
   have p4:Bx m w9.heap.size [.int .i64 i0,.bool iN,.slice ia il ic]:=by rw [← Y]; exact (bx_new w9 _ _).alloc _
   have t:Up W8 m:=k5.trans (d9.mono k5.size); have L:=Hd (g8.o.below (N:=W8.heap.size) u9.o t); have m8:=Hd (g7.o.trans (t.mono g7.o.size)); have n4:Hid (NumZ B m (.agg #[.int .i64 V,.bool dn,.slice da dl dc]) l6 1000):=numZ_of (t7.o.below t) t1 I.o.1.1 (low_len1 j4.o D.o.1) e6; have n5:Hid (NumZ B m (.agg #[.int .i64 i0,.bool iN,.slice ia il ic]) q5 1000):=numZ_of ((l4.below d9).mono (by have:=d3.o; have:=g7.o.size; omega)) t2 I.o.2.1 (low_len2 j4.o D.o.2) a3; have E:=Hd (HL.o _ _ j4.o); have b7:=s7.o m t; obtain ⟨u0,u1,u2⟩:=b7.k3; obtain ⟨v0,v1,v2⟩:=p4.k3; clear l4 p8 k9 k5 Y d9 p4 t b7 o6 o7 o8 i8 i9 j1
   go_upto_region 11 with fail
   rw [n9.o]; obtain ⟨r0,r1,r2,r3,r4,r5⟩:=L.o.r.k6; obtain ⟨f0,f1,f2,f3,f4,f5⟩:=L.o.r.f6
   go_wp2
   have j:NoInt m (w.heap.size+1+1):=noInt_of L.o.r (by simp); have hk:=keeps6 m (w.heap.size+1+1) (.int .i64 V) (.bool dn) (.slice da dl dc) (.int .i64 i0) (.bool iN) (.slice ia il ic); have d6:=n4.o.keeps j j hk; have d7:=n5.o.keeps j j hk; have d5:=set6 m8.o (w.heap.size+1+1) (by omega) (.int .i64 V) (.bool dn) (.slice da dl dc) (.int .i64 i0) (.bool iN) (.slice ia il ic); have hZ:=L.o.r.put6 (.int .i64 V) (.bool dn) (.slice da dl dc) (.int .i64 i0) (.bool iN) (.slice ia il ic); have d8:((((((m.setCell ⟨w.heap.size+1+1,0,none⟩ (.int .i64 V)).setCell ⟨w.heap.size+1+1,1,none⟩ (.bool dn)).setCell ⟨w.heap.size+1+1,2,none⟩ (.slice da dl dc)).setCell ⟨w.heap.size+1+1,3,none⟩ (.int .i64 i0)).setCell ⟨w.heap.size+1+1,4,none⟩ (.bool iN)).setCell ⟨w.heap.size+1+1,5,none⟩ (.slice ia il ic))=W6 m (w.heap.size+1+1) (.int .i64 V) (.bool dn) (.slice da dl dc) (.int .i64 i0) (.bool iN) (.slice ia il ic):=rfl; rw [d8]; generalize W6 m (w.heap.size+1+1) (.int .i64 V) (.bool dn) (.slice da dl dc) (.int .i64 i0) (.bool iN) (.slice ia il ic)=W9 at *; obtain ⟨m0,m1,m2,m3,m4,m5⟩:=hZ.k6; refine bodyPost_ret (v:=.agg #[.int .i64 V,.bool dn,.slice da dl dc,.int .i64 i0,.bool iN,.slice ia il ic]) ?_ rfl ⟨_,_,_,rfl,⟨V,dn,da,dl,dc,i0,iN,ia,il,ic,rfl,d6,d7⟩,E.o,d5⟩; simp [results,Tryz.results19,go_sem,m0,m1,m2,m3,m4,m5]
theorem isZ_len {B:Nat} {w:World} {z0:Int} {zn:Bool} {za:Option Addr} {zl zc:Nat} {neg:Bool} {t:List Nat} (hz:IsZ B w (.agg #[.int .i64 z0,.bool zn,.slice za zl zc]) neg t):(zl=0∧t.length≤2)∨(zl=t.length∧2<t.length∧zl≤maxLen):=by
 obtain ⟨_,_,h3⟩:=hz
 rcases h3 with ⟨h3,v,e,p,c,rfl,hl,i,_⟩|⟨h3,e⟩
 ·simp at e; exact .inr ⟨e.2.2.2.1,h3,by omega⟩
 simp at e; exact .inl ⟨e.2.2.2.1,h3⟩
theorem IsQN.below {B:Nat} {w w':World} {z:Value} {x y:Int} (h:IsQN B w z x y) (hb:Up w w'):IsQN B w' z x y:=by
 obtain ⟨m,A,s,u,t,D,H,E,G,F,e,i,j⟩:=h; exact ⟨m,A,s,u,t,D,H,E,G,F,e,i.below hb,j.below hb⟩
theorem digC_le (t:List Nat):digC t≤9*t.length+1:=by
 have:=textD_len t; unfold digC; split<;>omega
theorem full_size (ng:Bool) (t:List Nat) (h:t.length≤600):(fullT ng t).size≤6000:=by
 have i:=textD_len t; unfold fullT
 split
 ·rw [strB_size]; decide
 split
 ·rw [strB_size,List.length_cons]; omega
 rw [strB_size]; omega
theorem l2Fits_any (B:Nat) (p0:Int) (pn:Bool) (pa:Option Addr) (pl pc:Nat) (q0:Int) (qn:Bool) (qa:Option Addr) (ql qc:Nat) (n1 n2:Bool) (t1 t2:List Nat) (w:World) (hBw:B≤w.heap.size)
 (hz1:IsZ B w (.agg #[.int .i64 p0,.bool pn,.slice pa pl pc]) n1 t1) (hz2:IsZ B w (.agg #[.int .i64 q0,.bool qn,.slice qa ql qc]) n2 t2) (h1:t1.length≤600) (h2:t2.length≤600) :
 Calls Tryz.prog 55 #[.agg #[.int .i64 p0,.bool pn,.slice pa pl pc,.int .i64 q0,.bool qn,.slice qa ql qc],.int .i64 2500] w fun e w'=>e=.returned (.bool (decide (digC t1≤2500∧digC t2≤2500)))∧Up w w':=by
 have a5:=isZ_len hz1; have a6:=isZ_len hz2; have b9:=Hd hz1; have c6:=Hd hz2; have Y:=Hd hBw; clear hz1 hz2 hBw; obtain ⟨O,H⟩:=exW (w.alloc (.cells #[.int .i64 p0,.bool pn,.slice pa pl pc,.int .i64 q0,.bool qn,.slice qa ql qc] 51)); have b8:=Hd H; have i:Hid (Up w O):=by unfold Hid; rw [← H]; exact below_alloc _ _
 have J:Bx O w.heap.size [.int .i64 p0,.bool pn,.slice pa pl pc,.int .i64 q0,.bool qn,.slice qa ql qc]:=by rw [← H]; exact bx_new w _ _
 have HX:Hid (∀ W,Up O W→Bx W w.heap.size [.int .i64 p0,.bool pn,.slice pa pl pc,.int .i64 q0,.bool qn,.slice qa ql qc]):=fun W hW=>J.below J.lt hW; obtain ⟨T,U,k2⟩:=J.k3; clear H J; have L:Hid (digC t1≤9*t1.length+1):=digC_le t1; have M:Hid (digC t2≤9*t2.length+1):=digC_le t2; obtain ⟨d1,I⟩:∃ d,digC t1=d:=⟨_,rfl⟩; obtain ⟨d2,s⟩:∃ d,digC t2=d:=⟨_,rfl⟩; have b5:=Hd I; have b6:=Hd s; rw [I] at L; rw [s] at M; rw [I,s]; have b1:d1≤6000:=by have:=L.o; omega
 have b2:d2≤6000:=by have:=M.o; omega
 have HL:=Hd (And.intro a5 a6); clear a5 a6 I s
 -- what stands behind the question whether both are small
 have rest:∀ W1,Up O W1→Hid (Calls Tryz.prog 85 #[.agg #[.int .i64 p0,.bool pn,.slice pa pl pc]] W1 (fun e w'=>e=.returned (.int .i64 (d1:Nat))∧Up W1 w')):=fun W1 hW1=>by
  show Calls _ _ _ _ _
  refine (l1Digits_any B _ n1 t1 W1 (b9.o.below (i.o.trans (hW1.mono i.o.size))) (by have:=Y.o; have:=i.o.size; have:=hW1.size; omega) h1).mono ?_; rintro e w' ⟨rfl,t⟩; exact ⟨by rw [b5.o],t⟩
 have F:∀ W1,Up O W1→Hid (Calls Tryz.prog 85 #[.agg #[.int .i64 q0,.bool qn,.slice qa ql qc]] W1 (fun e w'=>e=.returned (.int .i64 (d2:Nat))∧Up W1 w')):=fun W1 hW1=>by
  show Calls _ _ _ _ _
  refine (l1Digits_any B _ n2 t2 W1 (c6.o.below (i.o.trans (hW1.mono i.o.size))) (by have:=Y.o; have:=i.o.size; have:=hW1.size; omega) h2).mono ?_; rintro e w' ⟨rfl,t⟩; exact ⟨by rw [b6.o],t⟩
 have K:=Hd rest; have E:=Hd F; clear rest F
 go_enter Tryz.func55,Tryz.ntmps55
 go_upto_region 1 with fail
 rw [b8.o]
 go_wp2_with fail
 refine (l1IsSmall_ex p0 pn pa pl pc O).mono ?_; rintro e w1 ⟨rfl,a8⟩; have Q:Up O w1:=by rw [a8]; exact below_alloc _ _
 have A:=Hd Q; have u:=HX.o w1 Q; clear a8 Q T U k2; obtain ⟨T,U,k2,k3,k4,G⟩:=u.k6; clear u
 by_cases S:pl=0
 ·have z:((pl:Int)==0)=true:=by rw [beq_iff_eq]; omega
  have b7:=Hd S; rw [z]; clear z S
  go_wp2_with fail
  refine (l1IsSmall_ex q0 qn qa ql qc w1).mono ?_; rintro e V ⟨rfl,a9⟩; have Z:Up w1 V:=by rw [a9]; exact below_alloc _ _
  have m:=Hd (A.o.trans (Z.mono A.o.size)); have u:=HX.o V m.o; clear a9 Z T U k2 k3 k4 G; obtain ⟨T,U,k2,k3,k4,G⟩:=u.k6; clear u
  by_cases a7:ql=0
  ·have z:((ql:Int)==0)=true:=by rw [beq_iff_eq]; omega
   have HE:Hid (true=decide (d1≤2500∧d2≤2500)):=by
    unfold Hid
    have:=HL.o; have:=b7.o; have:=L.o; have:=M.o; rw [eq_comm,decide_eq_true_iff]; omega
   have j:=Hd (i.o.trans (m.o.mono i.o.size)); rw [z]; clear z a7
   go_wp2
   go_ret
   exact ⟨ret_bool HE.o,j.o⟩
  have z:((ql:Int)==0)=false:=by rw [beq_eq_false_iff_ne]; omega
  rw [z]; clear z a7
  go_wp2_with fail
  refine (K.o V m.o).o.mono ?_; rintro e w3 ⟨rfl,t⟩; have D:=Hd (m.o.trans (t.mono m.o.size)); have u:=HX.o w3 D.o; clear t T U k2 k3 k4 G; have k3:=u.cell 3; have k4:=u.cell 4; have G:=u.cell 5; simp only [List.getElem?_cons_zero,List.getElem?_cons_succ] at k3 k4 G; clear u
  by_cases hd:d1≤2500
  ·have z1:decide ((d1:Int)≤2500)=true:=by rw [decide_eq_true_iff]; omega
   go_wp2_with fail
   refine (E.o w3 D.o).o.mono ?_; rintro e w4 ⟨rfl,t⟩; have j:=Hd (i.o.trans ((D.o.trans (t.mono D.o.size)).mono i.o.size)); clear t k3 k4 G
   by_cases s:d2≤2500
   ·have z2:decide ((d2:Int)≤2500)=true:=by rw [decide_eq_true_iff]; omega
    go_wp2
    go_ret
    exact ⟨ret_bool (by simp [hd,s]),j.o⟩
   have z2:decide ((d2:Int)≤2500)=false:=by rw [decide_eq_false_iff_not]; omega
   go_wp2
   go_ret
   exact ⟨ret_bool (by simp [s]),j.o⟩
  have z1:decide ((d1:Int)≤2500)=false:=by rw [decide_eq_false_iff_not]; omega
  have j:=Hd (i.o.trans (D.o.mono i.o.size))
  go_wp2
  go_ret
  exact ⟨ret_bool (by simp [hd]),j.o⟩
 have z:((pl:Int)==0)=false:=by rw [beq_eq_false_iff_ne]; omega
 rw [z]; clear z S
 go_wp2_with fail
 refine (K.o w1 A.o).o.mono ?_; rintro e V ⟨rfl,t⟩; have m:=Hd (A.o.trans (t.mono A.o.size)); have u:=HX.o V m.o; clear t T U k2 k3 k4 G; have k3:=u.cell 3; have k4:=u.cell 4; have G:=u.cell 5; simp only [List.getElem?_cons_zero,List.getElem?_cons_succ] at k3 k4 G; clear u
 by_cases hd:d1≤2500
 ·have z1:decide ((d1:Int)≤2500)=true:=by rw [decide_eq_true_iff]; omega
  go_wp2_with fail
  refine (E.o V m.o).o.mono ?_; rintro e w3 ⟨rfl,t⟩; have j:=Hd (i.o.trans ((m.o.trans (t.mono m.o.size)).mono i.o.size)); clear t k3 k4 G
  by_cases s:d2≤2500
  ·have z2:decide ((d2:Int)≤2500)=true:=by rw [decide_eq_true_iff]; omega
   go_wp2
   go_ret
   exact ⟨ret_bool (by simp [hd,s]),j.o⟩
  have z2:decide ((d2:Int)≤2500)=false:=by rw [decide_eq_false_iff_not]; omega
  go_wp2
  go_ret
  exact ⟨ret_bool (by simp [s]),j.o⟩
 have z1:decide ((d1:Int)≤2500)=false:=by rw [decide_eq_false_iff_not]; omega
 have j:=Hd (i.o.trans (m.o.mono i.o.size))
 go_wp2
 go_ret
 exact ⟨ret_bool (by simp [hd]),j.o⟩
theorem l2Text_any (B:Nat) (p0:Int) (pn:Bool) (pa:Option Addr) (pl pc:Nat) (q0:Int) (qn:Bool) (qa:Option Addr) (ql qc:Nat) (n1 n2:Bool) (t1 t2:List Nat) (x y:Int) (w:World) (hBw:B≤w.heap.size)
 (hQ:IsQN B w (.agg #[.int .i64 p0,.bool pn,.slice pa pl pc,.int .i64 q0,.bool qn,.slice qa ql qc]) x y)
 (hz1:IsZ B w (.agg #[.int .i64 p0,.bool pn,.slice pa pl pc]) n1 t1) (hz2:IsZ B w (.agg #[.int .i64 q0,.bool qn,.slice qa ql qc]) n2 t2) (h1:t1.length≤600) (h2:t2.length≤600) :
 Calls Tryz.prog 18 #[.agg #[.int .i64 p0,.bool pn,.slice pa pl pc,.int .i64 q0,.bool qn,.slice qa ql qc]] w fun e w'=>e=.returned (.string (if y=1 then fullT (negOf n1 t1) t1 else fullT (negOf n1 t1) t1++⟨#[47]⟩++fullT (negOf n2 t2) t2))∧Up w w':=by
 have Y:=Hd hz1; have Z:=Hd hz2; have E:=Hd hBw; have T:=Hd hQ; clear hz1 hz2 hBw hQ; obtain ⟨D,u⟩:=exW (w.alloc (.cells #[.int .i64 p0,.bool pn,.slice pa pl pc,.int .i64 q0,.bool qn,.slice qa ql qc] 51)); have U:=Hd u; have i:Hid (Up w D):=by unfold Hid; rw [← u]; exact below_alloc _ _
 have A:Bx D w.heap.size [.int .i64 p0,.bool pn,.slice pa pl pc,.int .i64 q0,.bool qn,.slice qa ql qc]:=by rw [← u]; exact bx_new w _ _
 have HX:Hid (∀ W,Up D W→Bx W w.heap.size [.int .i64 p0,.bool pn,.slice pa pl pc,.int .i64 q0,.bool qn,.slice qa ql qc]):=fun W hW=>A.below A.lt hW; obtain ⟨k0,k1,k2,k3,k4,k5⟩:=A.k6; clear u A; have m:Hid (∀ W1,Up D W1→Calls Tryz.prog 43 #[.agg #[.int .i64 p0,.bool pn,.slice pa pl pc]] W1 (fun e w'=>e=.returned (.string (fullT (negOf n1 t1) t1))∧Up W1 w')):=fun W1 hW1=>
  l1Text_any B _ n1 t1 W1 (Y.o.below (i.o.trans (hW1.mono i.o.size))) (by have:=E.o; have:=i.o.size; have:=hW1.size; omega) h1
 have s:Hid (∀ W1,Up D W1→Calls Tryz.prog 43 #[.agg #[.int .i64 q0,.bool qn,.slice qa ql qc]] W1 (fun e w'=>e=.returned (.string (fullT (negOf n2 t2) t2))∧Up W1 w')):=fun W1 hW1=>
  l1Text_any B _ n2 t2 W1 (Z.o.below (i.o.trans (hW1.mono i.o.size))) (by have:=E.o; have:=i.o.size; have:=hW1.size; omega) h2
 have I:Hid ((fullT (negOf n1 t1) t1).size≤6000):=full_size _ _ h1; have J:Hid ((fullT (negOf n2 t2) t2).size≤6000):=full_size _ _ h2; obtain ⟨f1,M⟩:∃ f,fullT (negOf n1 t1) t1=f:=⟨_,rfl⟩; obtain ⟨f2,O⟩:∃ f,fullT (negOf n2 t2) t2=f:=⟨_,rfl⟩; rw [M] at m I ⊢; rw [O] at s J ⊢; clear M O
 go_enter Tryz.func18,Tryz.ntmps18
 go_upto_region 1 with fail
 rw [U.o]
 go_wp2_with fail
 refine (l2Whole_any B _ x y D (by have:=E.o; have:=i.o.size; omega) (T.o.below i.o)).mono ?_; rintro e w1 ⟨rfl,F⟩; have j:=Hd F; have G:=HX.o w1 F; clear F k0 k1 k2 k3 k4 k5; obtain ⟨k0,k1,k2,k3,k4,k5⟩:=G.k6; clear G
 by_cases H:y=1
 ·have z:decide (y=1)=true:=decide_eq_true H; have V:=Hd H; rw [z]; clear z H
  go_wp2_with fail
  refine (m.o w1 j.o).mono ?_; rintro e w2 ⟨rfl,hb⟩; have Q:=Hd (i.o.trans ((j.o.trans (hb.mono j.o.size)).mono i.o.size)); clear hb k0 k1 k2 k3 k4 k5
  go_wp2
  go_ret
  exact ⟨by first|rfl|(rw [if_pos V.o]; rfl),Q.o⟩
 have z:decide (y=1)=false:=decide_eq_false H; have V:=Hd H; rw [z]; clear z H; have b4:(⟨#[47]⟩:ByteArray).size=1:=rfl; have b7:=I.o; have b8:=J.o; have b5:(f1++(⟨#[47]⟩:ByteArray)).size≤7000:=by rw [ByteArray.size_append]; omega
 have b6:(f1++(⟨#[47]⟩:ByteArray)++f2).size≤14000:=by rw [ByteArray.size_append]; omega
 go_wp2_with fail
 go_region_with (first
  | (go_at_call_of 43 (Value.int IntKind.i64 p0); refine (m.o _ ?_).mono ?_
     ·exact j.o.drew
     rintro e wa ⟨rfl,K⟩; have t:Hid (Up D wa):=j.o.drew.trans (K.mono j.o.size); have G:=HX.o wa t.o; have m3:=G.cell 3; have m4:=G.cell 4; have m5:=G.cell 5; simp only [List.getElem?_cons_zero,List.getElem?_cons_succ] at m3 m4 m5; clear G K)
  | (go_at_call_of 43 (Value.int IntKind.i64 q0); refine (s.o _ ?_).mono ?_
     ·exact t.o
     rintro e wb ⟨rfl,L⟩; have S:Hid (Up D wb):=t.o.trans (L.mono t.o.size); clear L))
 all_goals
  go_wp2
  go_ret
  exact ⟨by first|rfl|(rw [if_neg V.o]; rfl),i.o.trans (S.o.mono i.o.size)⟩
theorem textT_dig (neg:Bool) (t:List Nat):textT (negOf neg t) t=if 2500<digC t then strB [] else fullT (negOf neg t) t:=by
 unfold textT textS fullT digC
 by_cases i:t.length=0
 ·rw [if_pos i,if_pos i,if_pos i,if_neg (by omega)]
 rw [if_neg i,if_neg i,if_neg i]
theorem digC_ge (t:List Nat) (hok:okL t) (htr:isTrim t) (h:280<t.length):2500<digC t:=by
 have i:=textD_ge t hok htr (by intro e; rw [e] at h; simp at h); unfold digC; rw [if_neg (by omega)]; omega
theorem full_ne (ng:Bool) (t:List Nat) (hok:okL t) (htr:isTrim t):(fullT ng t).size≠0:=by
 by_cases i:t.length=0
 ·unfold fullT; rw [if_pos i,strB_size]; decide
 have j:=textD_ge t hok htr (by intro e; rw [e] at i; simp at i); rw [fullT_size ng t i]; omega
theorem one_len {n:Bool} {t:List Nat} {y:Int} (htr:isTrim t) (e:sg n (val t)=y) (hy:y=1):t.length≤1:=by
 have i:val t=1:=by
  have h:=congrArg Int.natAbs e; rw [sg_abs,hy] at h; exact h
 have j:okL [1]:=fun x hx=>by simp at hx; omega
 have:=lenOfLe t [1] htr j (by rw [i]; simp [val])
 simpa using this
def toldT (y:Int) (n1 n2:Bool) (t1 t2:List Nat):ByteArray:=if digC t1≤2500∧digC t2≤2500 then if y=1 then fullT (negOf n1 t1) t1 else fullT (negOf n1 t1) t1++⟨#[47]⟩++fullT (negOf n2 t2) t2 else ⟨#[]⟩
theorem told_text {x y:Int} {n1 n2:Bool} {t1 t2:List Nat} (o1:okL t1) (r1:isTrim t1) (e1:sg n1 (val t1)=x) (o2:okL t2) (r2:isTrim t2) (e2:sg n2 (val t2)=y):TextR x y (toldT y n1 n2 t1 t2):=by
 have j:IsText x (textT (negOf n1 t1) t1):=⟨n1,t1,o1,r1,e1,rfl⟩; have u:IsText y (textT (negOf n2 t2) t2):=⟨n2,t2,o2,r2,e2,rfl⟩; have i:=textT_dig n1 t1; have m:=textT_dig n2 t2; unfold TextR toldT
 by_cases t:y=1
 ·rw [if_pos t,if_pos t]; have hl:=one_len r2 e2 t; have D:=digC_le t2
  by_cases s:digC t1≤2500
  ·rw [if_pos ⟨s,by omega⟩]; rw [if_neg (by omega)] at i; rw [← i]; exact j
  rw [if_neg (fun h=>s h.1)]; rw [if_pos (by omega)] at i; rw [i] at j; exact j
 rw [if_neg t,if_neg t]; refine ⟨_,_,j,u,?_⟩
 by_cases s:digC t1≤2500
 ·rw [if_neg (by omega)] at i
  by_cases A:digC t2≤2500
  ·rw [if_neg (by omega)] at m; rw [if_pos ⟨s,A⟩,i,m,if_neg (fun h=>h.elim (full_ne _ _ o1 r1) (full_ne _ _ o2 r2))]
  rw [if_pos (by omega)] at m; rw [if_neg (fun h=>A h.2),if_pos (.inr (by rw [m,strB_size]; rfl))]
 rw [if_pos (by omega)] at i; rw [if_neg (fun h=>s h.1),if_pos (.inl (by rw [i,strB_size]; rfl))]
theorem l2Told_any (B:Nat) (z:Value) (x y:Int) (w:World) (hBw:B≤w.heap.size) (h:IsQN B w z x y) :
 Calls Tryz.prog 27 #[z] w fun e w'=>∃ u,e=.returned (.string u)∧TextR x y u∧Up w w':=by
 have b7:=Hd h; obtain ⟨U,Z,V,pl,Y,q0,qn,qa,ql,qc,rfl,⟨K,t1,m,e1,_⟩,T,t2,s,e2,_⟩:=h; have HT:Hid (TextR x y (toldT y K T t1 t2)):=told_text m.1 m.2.1 e1 s.1 s.2.1 e2; have F:=isZ_len m; have G:=isZ_len s; have b5:Hid (280<t1.length→2500<digC t1):=digC_ge t1 m.1 m.2.1; have b6:Hid (280<t2.length→2500<digC t2):=digC_ge t2 s.1 s.2.1; have O:=Hd m; have Q:=Hd s; have M:=Hd hBw; clear m s hBw e1 e2; obtain ⟨W0,D⟩:=exW (w.alloc (.cells #[.int .i64 U,.bool Z,.slice V pl Y,.int .i64 q0,.bool qn,.slice qa ql qc] 51)); have J:=Hd D; have i:Hid (Up w W0):=by unfold Hid; rw [← D]; exact below_alloc _ _
 have H:Bx W0 w.heap.size [.int .i64 U,.bool Z,.slice V pl Y,.int .i64 q0,.bool qn,.slice qa ql qc]:=by rw [← D]; exact bx_new w _ _
 have HX:Hid (∀ W,Up W0 W→Bx W w.heap.size [.int .i64 U,.bool Z,.slice V pl Y,.int .i64 q0,.bool qn,.slice qa ql qc]):=fun W hW=>H.below H.lt hW; obtain ⟨k0,k1,k2,k3,k4,k5⟩:=H.k6; clear D H; unfold maxLen at F G
 by_cases hp:280<pl
 ·have zz:decide (280<(pl:Int))=true:=by rw [decide_eq_true_iff]; omega
  have I:Hid (TextR x y ⟨#[]⟩):=by
   have h:=HT.o; unfold toldT at h; rw [if_neg (fun hh=>by have:=b5.o (by omega); omega)] at h; exact h
  clear F G hp
  go_enter Tryz.func27,Tryz.ntmps27
  go_upto_region 1 with fail
  rw [J.o]
  go_wp2
  go_ret
  exact ⟨_,rfl,I.o,i.o⟩
 have zz:decide (280<(pl:Int))=false:=by rw [decide_eq_false_iff_not]; omega
 by_cases hq:280<ql
 ·have zq:decide (280<(ql:Int))=true:=by rw [decide_eq_true_iff]; omega
  have I:Hid (TextR x y ⟨#[]⟩):=by
   have h:=HT.o; unfold toldT at h; rw [if_neg (fun hh=>by have:=b6.o (by omega); omega)] at h; exact h
  clear F G hp hq
  go_enter Tryz.func27,Tryz.ntmps27
  go_upto_region 1 with fail
  rw [J.o]
  go_wp2
  go_ret
  exact ⟨_,rfl,I.o,i.o⟩
 have zq:decide (280<(ql:Int))=false:=by rw [decide_eq_false_iff_not]; omega
 have t:t1.length≤600:=by omega
 have A:t2.length≤600:=by omega
 clear F G hp hq
 go_enter Tryz.func27,Tryz.ntmps27
 go_upto_region 1 with fail
 rw [J.o]
 go_wp2_with fail
 refine (l2Fits_any B U Z V pl Y q0 qn qa ql qc K T t1 t2 W0 (by have:=M.o; have:=i.o.size; omega) (O.o.below i.o) (Q.o.below i.o) t A).mono ?_; rintro e w1 ⟨rfl,E⟩; have d4:=Hd E; have j:=Hd (i.o.trans (E.mono i.o.size)); have hx:=HX.o w1 E; clear E k0 k1 k2 k3 k4 k5
 by_cases L:digC t1≤2500∧digC t2≤2500
 ·have z2:decide (digC t1≤2500∧digC t2≤2500)=true:=decide_eq_true L; have I:Hid (TextR x y (if y=1 then fullT (negOf K t1) t1 else fullT (negOf K t1) t1++⟨#[47]⟩++fullT (negOf T t2) t2)):=by
   have h:=HT.o; unfold toldT at h; rw [if_pos L] at h; exact h
  obtain ⟨k0,k1,k2,k3,k4,k5⟩:=hx.k6; rw [z2]; clear hx L z2
  go_wp2_with fail
  refine (l2Text_any B U Z V pl Y q0 qn qa ql qc K T t1 t2 x y w1 (by have:=M.o; have:=j.o.size; omega) (b7.o.below j.o) (O.o.below j.o) (Q.o.below j.o) t A).mono ?_; rintro e w2 ⟨rfl,S⟩; have b4:=Hd (j.o.trans (S.mono j.o.size)); obtain ⟨u,hu⟩:=exW (if y=1 then fullT (negOf K t1) t1 else fullT (negOf K t1) t1++⟨#[47]⟩++fullT (negOf T t2) t2); rw [hu] at I ⊢; clear S hu k0 k1 k2 k3 k4 k5
  go_wp2
  go_ret
  exact ⟨_,rfl,I.o,b4.o⟩
 have z2:decide (digC t1≤2500∧digC t2≤2500)=false:=decide_eq_false L; have I:Hid (TextR x y ⟨#[]⟩):=by
  have h:=HT.o; unfold toldT at h; rw [if_neg L] at h; exact h
 rw [z2]; clear hx L z2
 go_wp2
 go_ret
 exact ⟨_,rfl,I.o,j.o⟩
theorem numZ_read (B:Nat) (w:World) (z:Value) (p:ByteArray) (hp:isIntB p=true) (h:IsZ B w z (isNeg p) (lim p)):NumZ B w z (numT p) 1000:=
 ⟨_,_,h,rfl,by have:=lim_len' p hp; omega⟩
theorem l2Read_any (s:ByteArray) (k:Option Nat) (x y:Int) (w:World) (hs:s.size≤maxLen) (hk:IsCut s k) (hV:RatV s k x y) :
 Calls Tryz.prog 29 #[.string s] w fun e w'=>∃ z,e=.returned z∧IsQN w.heap.size w' z x y∧Up w w':=by
 have HK:=Hd hk; have HV:=Hd hV; clear hk hV; obtain ⟨W0,Z⟩:=exW (w.alloc (.cells #[.int .i64 0,.bool false,.slice none 0 0,.int .i64 0,.bool false,.slice none 0 0] 51)); have b7:=Hd Z; have L:Hid (Up w W0):=by unfold Hid; rw [← Z]; exact below_alloc _ _
 have b5:Bx W0 w.heap.size [.int .i64 0,.bool false,.slice none 0 0,.int .i64 0,.bool false,.slice none 0 0]:=by rw [← Z]; exact bx_new w _ _
 have HX:Hid (∀ W,Up W0 W→Bx W w.heap.size [.int .i64 0,.bool false,.slice none 0 0,.int .i64 0,.bool false,.slice none 0 0]):=fun W hW=>b5.below b5.lt hW; clear Z b5
 cases k with
 | none=>
   go_enter Tryz.func29,Tryz.ntmps29
   go_wp2_with fail
   rw [b7.o]; refine (l2Cut_any s none _ hs HK.o).mono ?_; rintro e w1 ⟨rfl,b4⟩; subst b4; have e1:cutI none = -1:=rfl; rw [e1]
   go_wp2_with fail
   refine (l1Read_any s _ HV.o.1).mono ?_; rintro e w2 ⟨z1,rfl,Y,V⟩; have Q:=numZ_read _ _ _ s HV.o.1 Y; obtain ⟨a0,an,aa,al,ac,rfl⟩:=Q.shape'; have a3:=Hd Q; have M:=Hd V; clear Y Q V
   go_wp2_with fail
   refine (l2OfZ_any _ a0 an aa al ac (numT s) _ M.o.size a3.o).mono ?_; rintro e K ⟨z,rfl,hq,U⟩; obtain ⟨t,E,u,D,A,F,J,G,I,H,rfl,hP,hQ⟩:=hq; have O:=Hd (M.o.trans (U.mono M.o.size)); have T:Hid (NumZ w.heap.size K (.agg #[.int .i64 t,.bool E,.slice u D A]) x 1000∧NumZ w.heap.size K (.agg #[.int .i64 F,.bool J,.slice G I H]) y 1000):=by
    rw [HV.o.2.1,HV.o.2.2]; exact ⟨hP.mono' L.o.size leR,hQ.mono' L.o.size leR⟩
   have j:=HX.o K O.o; obtain ⟨r0,r1,r2,r3,r4,r5⟩:=j.k6; obtain ⟨f0,f1,f2,f3,f4,f5⟩:=j.f6; clear hP hQ U j
   go_wp2
   have j:=HX.o K O.o; have m:NoInt K w.heap.size:=noInt_of j (by simp); have hk:=keeps6 K w.heap.size (.int .i64 t) (.bool E) (.slice u D A) (.int .i64 F) (.bool J) (.slice G I H); have a6:=T.o.1.keeps m m hk; have a7:=T.o.2.keeps m m hk; have a5:=set6 (L.o.trans (O.o.mono L.o.size)) w.heap.size leR (.int .i64 t) (.bool E) (.slice u D A) (.int .i64 F) (.bool J) (.slice G I H); have hZ:=j.put6 (.int .i64 t) (.bool E) (.slice u D A) (.int .i64 F) (.bool J) (.slice G I H); have a8:(((((K.setCell ⟨w.heap.size,0,none⟩ (.int .i64 t)).setCell ⟨w.heap.size,1,none⟩ (.bool E)).setCell ⟨w.heap.size,2,none⟩ (.slice u D A)).setCell ⟨w.heap.size,3,none⟩ (.int .i64 F)).setCell ⟨w.heap.size,4,none⟩ (.bool J)).setCell ⟨w.heap.size,5,none⟩ (.slice G I H)=W6 K w.heap.size (.int .i64 t) (.bool E) (.slice u D A) (.int .i64 F) (.bool J) (.slice G I H):=rfl; rw [a8]; generalize W6 K w.heap.size (.int .i64 t) (.bool E) (.slice u D A) (.int .i64 F) (.bool J) (.slice G I H)=W9 at *; obtain ⟨m0,m1,m2,m3,m4,m5⟩:=hZ.k6; refine bodyPost_ret (v:=.agg #[.int .i64 t,.bool E,.slice u D A,.int .i64 F,.bool J,.slice G I H]) ?_ rfl ⟨_,rfl,⟨t,E,u,D,A,F,J,G,I,H,rfl,a6,a7⟩,a5⟩; simp [results,Tryz.results29,go_sem,m0,m1,m2,m3,m4,m5]
 | some i=>
   have hi:=isCut_lt HK.o; have c1:(0:Int)≤(i:Int):=by omega
   have c2:(i:Int)≤(s.size:Int):=by omega
   have c3:(0:Int)≤(i:Int)+1:=by omega
   have c4:(i:Int)+1≤(s.size:Int):=by omega
   have d2:s.extract 0 i=cutP s (some i):=rfl; have b8:s.extract (i+1) s.size=cutQ s (some i):=rfl; obtain ⟨p,hp⟩:=exW (cutP s (some i)); obtain ⟨q,hq⟩:=exW (cutQ s (some i)); have T:Hid (cutP s (some i)=p∧cutQ s (some i)=q):=⟨hp,hq⟩; rw [hp] at d2; rw [hq] at b8; have S:Hid ((isIntB p=true∧isIntB q=true)∧x=numT p∧y=numT q):=by
    obtain ⟨h1,_,h2,h3⟩:=HV.o; rw [hp,hq] at h1; rw [hp] at h2; rw [hq] at h3; exact ⟨h1,h2,h3⟩
   unfold maxLen at hs; clear hp hq; have e8:IntKind.i64.wrap ((i:Int)+1)=(i:Int)+1:=wrap_id _ (by omega) (by omega); have e7:∀ W,(Instr.slice 9 (.string s) (some (.int .i64 ((i:Int)+1))) none none).run Tryz.prog W=.ok (.string q) W:=fun W=>by
    rw [run_slice_string_from_if W 9 s .i64 _ Tryz.underlying9,if_pos ⟨c3,c4⟩,show ((i:Int)+1).toNat=i+1 by omega,b8]
   go_enter Tryz.func29,Tryz.ntmps29
   go_wp2_with fail
   rw [b7.o]; refine (l2Cut_any s (some i) _ (by unfold maxLen; exact hs) HK.o).mono ?_; rintro e w1 ⟨rfl,b4⟩; subst b4; have e1:cutI (some i)=(i:Int):=rfl; rw [e1]
   go_wp2_with fail
   go_region_with (first
    | (go_at_call_of 38 (Value.string p)
       refine (l1Read_any p _ S.o.1.1).mono ?_; rintro e w2 ⟨z1,rfl,Y,V⟩; have Q:=numZ_read _ _ _ p S.o.1.1 Y; obtain ⟨t,E,u,D,A,rfl⟩:=Q.shape'; have a3:=Hd Q; have M:Hid (Up w1 w2):=(Below.refl _ w1).drew.trans V; clear Y Q V)
    | (go_at_call_of 38 (Value.string q)
       refine (l1Read_any q _ S.o.1.2).mono ?_; rintro e K ⟨z2,rfl,c6,U⟩; have a9:=numZ_read _ _ _ q S.o.1.2 c6; obtain ⟨F,J,G,I,H,rfl⟩:=a9.shape'; have T:Hid (NumZ w.heap.size K (.agg #[.int .i64 t,.bool E,.slice u D A]) x 1000∧NumZ w.heap.size K (.agg #[.int .i64 F,.bool J,.slice G I H]) y 1000):=by
        rw [S.o.2.1,S.o.2.2]; exact ⟨(a3.o.below U).mono' L.o.size leR,a9.mono' (Nat.le_trans L.o.size M.o.size) leR⟩
       have O:=Hd (M.o.trans (U.mono M.o.size)); have j:=HX.o K O.o; obtain ⟨r0,r1,r2,r3,r4,r5⟩:=j.k6; obtain ⟨f0,f1,f2,f3,f4,f5⟩:=j.f6; clear c6 a9 U j))
   all_goals
    try simp only [List.getElem_toArray,List.getElem_cons_succ,List.getElem_cons_zero,Act.put,List.setIfInBounds_toArray,List.set_cons_succ,List.set_cons_zero]
    go_wp2
    have j:=HX.o K O.o; have m:NoInt K w.heap.size:=noInt_of j (by simp); have hk:=keeps6 K w.heap.size (.int .i64 t) (.bool E) (.slice u D A) (.int .i64 F) (.bool J) (.slice G I H); have a6:=T.o.1.keeps m m hk; have a7:=T.o.2.keeps m m hk; have a5:=set6 (L.o.trans (O.o.mono L.o.size)) w.heap.size leR (.int .i64 t) (.bool E) (.slice u D A) (.int .i64 F) (.bool J) (.slice G I H); have hZ:=j.put6 (.int .i64 t) (.bool E) (.slice u D A) (.int .i64 F) (.bool J) (.slice G I H); have a8:(((((K.setCell ⟨w.heap.size,0,none⟩ (.int .i64 t)).setCell ⟨w.heap.size,1,none⟩ (.bool E)).setCell ⟨w.heap.size,2,none⟩ (.slice u D A)).setCell ⟨w.heap.size,3,none⟩ (.int .i64 F)).setCell ⟨w.heap.size,4,none⟩ (.bool J)).setCell ⟨w.heap.size,5,none⟩ (.slice G I H)=W6 K w.heap.size (.int .i64 t) (.bool E) (.slice u D A) (.int .i64 F) (.bool J) (.slice G I H):=rfl; rw [a8]; generalize W6 K w.heap.size (.int .i64 t) (.bool E) (.slice u D A) (.int .i64 F) (.bool J) (.slice G I H)=W9 at *; obtain ⟨m0,m1,m2,m3,m4,m5⟩:=hZ.k6; refine bodyPost_ret (v:=.agg #[.int .i64 t,.bool E,.slice u D A,.int .i64 F,.bool J,.slice G I H]) ?_ rfl ⟨_,rfl,⟨t,E,u,D,A,F,J,G,I,H,rfl,a6,a7⟩,a5⟩; simp [results,Tryz.results29,go_sem,m0,m1,m2,m3,m4,m5]
end Go.Proofs.YtnhbmpnhijgpmaaGreatDoor
