import Derived.Test.YtjjgilacnocigaaGreatDoorP39
set_option maxRecDepth 100000
set_option maxHeartbeats 16000000
namespace Go.Proofs.YtjjgilacnocigaaGreatDoor
open ChangeShapes WideShapes ChangeAt RowKit
def fUW (n:List UInt8):Option Nat:=if n=[85] then some 0 else if n=[87] then some 1 else none
theorem ER:Eh fUW=Kr uw:=by
 funext n
 unfold Eh Kr fUW uw
 by_cases d:n=[85]
 ·subst d;decide
 by_cases j:n=[87]
 ·subst j;decide
 rw[if_neg d,if_neg j];simp[d,j]
theorem EW {w:World}{b:Nat}(h:Eu w (.slice (some ⟨b,0,none⟩) 2 2) uw):C1 w b fUW:=by
 obtain⟨p,c,e,_,_,h3⟩:=h
 cases e
 rcases h3 with h3|⟨G,e,hl,D⟩
 ·cases h3
 cases e
 refine⟨[⟨#[85]⟩,⟨#[87]⟩],rfl,fun i hi=>?_,fun s=>?_⟩
 ·have d:i=0∨i=1:=by simp at hi;omega
  rcases d with rfl|rfl
  ·exact D 0 (by decide)
  exact D 1 (by decide)
 rw[Zj,Lib.containsS_iff];unfold fUW
 by_cases j:s.data.toList=[85]
 ·have e:s=⟨#[85]⟩:=Kz j;rw[if_pos j,e];simp
 by_cases d:s.data.toList=[87]
 ·have e:s=⟨#[87]⟩:=Kz d;rw[if_neg j,if_pos d,e];simp
 rw[if_neg j,if_neg d];have E:s≠⟨#[85]⟩:=fun e=>j (by rw[e]);have F:s≠⟨#[87]⟩:=fun e=>d (by rw[e]);simp[E,F]
theorem FG {ki ke:SK}{a i v p:ByteArray}(h:P2 ki ke a i v p)(hp:p≠⟨#[]⟩):∃ r L r' L',K1 ki ke a r L/\Kg ki i/\Kg ke v/\K1 ki ke p r' L'/\PutR ki ke r L i v r' L':=by
 by_cases e:∃ r L,K1 ki ke a r L/\Kg ki i/\Kg ke v
 ·obtain⟨r,L,j,D,h3⟩:=e;obtain⟨r',L',h4,h5⟩:=h.1 r L j D h3;refine⟨r,L,r',L',j,D,h3,?_,h4⟩;unfold X9 at h5
  by_cases d:L'.length<=60/\(E8 r' L').length<=2000
  ·rw[if_pos d] at h5;subst h5;exact⟨by rw[O4],by show (E8 r' L').toArray.size<=2000;simpa using d.2,⟨h4.rest,d.1,h4.srt.ents,h4.srt.sort⟩⟩
  rw[if_neg d] at h5;exact absurd h5 hp
 exact absurd (h.2 e) hp
end Go.Proofs.YtjjgilacnocigaaGreatDoor
namespace Go.Proofs.YtjjgilacnocigaaGreatDoor
open ChangeShapes WideShapes ChangeAt RowKit Proofs.Tryz
theorem MR {ki ke:SK}{a r:ByteArray}{L:List Kd}(h:K1 ki ke a r L):X9 r L=a:=by
 unfold X9;rw[if_pos ⟨h.2.2.most,by rw[<-h.1];exact h.2.1⟩,<-h.1];exact Nv a
theorem MW (a1 a2:Option Addr)(n1 cap1 n2 cap2:Nat)(w:World)(h1:Q.Ir w a1 n1 cap1)(h2:Q.Ir w a2 n2 cap2)(hT:VT w) :
 Calls prog 3 #[.slice a1 n1 cap1,.slice a2 n2 cap2] w fun e w'=>e=.returned (.bool true)/\Up w w':=by
 have HT:=Hd hT;have H2:=Hd h2;have HD:=Hd (YU a1 n1 cap1 w h1);clear hT h1 h2
 by_cases c1:1048576<n1
 ·have e6:(1048576:Int)<(n1:Int):=by omega
  go_in
  go_wp2
  go_ret
  exact⟨rfl,Jj _ _⟩
 by_cases c2:1048576<n2
 ·have e6:¬ (1048576:Int)<(n1:Int):=by omega
  have j5:(1048576:Int)<(n2:Int):=by omega
  go_in
  go_wp2
  go_ret
  exact⟨rfl,Jj _ _⟩
 have e6:¬ (1048576:Int)<(n1:Int):=by omega
 have j5:¬ (1048576:Int)<(n2:Int):=by omega
 go_in
 go_wp2_with fail
 refine HD.o.mono ?_;rintro e w1 ⟨b,t,X,T,O,x,i,v,rfl,hG,ht,h0,b3,hx,hi,hv,d2⟩;have d:=Hd hG;have j3:=Hd h0;have H:=Hd d2;have c8:=Hd (HT.o.next d2);have d0:Hid ((Oy t).size<=1048576):=by unfold Hid;show t.toArray.size<=_;simp;omega
 have c7:Hid (Ks (Eh fUW) (Oy t).data.toList=X):=by unfold Hid;rw[ER,O4];exact hG.rx
 have c6:Hid (Ks (Eh fUW) X.index=T):=by unfold Hid;rw[ER];exact hG.ri
 have b9:Hid (Ks (Eh fUW) X.elem=O):=by unfold Hid;rw[ER];exact hG.re
 have D:Hid (X.index.length<=1048576/\X.elem.length<=1048576):=by have:=hG.li;have:=hG.le;unfold Hid;omega
 have E:Hid (∀ W,Up w1 W->Eu W (.slice (some ⟨b,0,none⟩) 2 2) uw):=fun W hW=>j3.o.bl hW;have G:Hid (∀ W,Up w1 W->∀ s Y,s.length<=1048576->Ks (Kr uw) s=Y->P3 W (.slice (some ⟨b,0,none⟩) 2 2) s Y):=fun W hW s Y hs hY=>by
  have h9:=E.o W hW;have hg:b≠W.heap.size:=by have:=hW.size;omega
  exact (In (g:=W.heap.size) h9 hg hs hY).at (Q.Bar.refl _ _)
 have e5:=Hd (fun W (hW:Up w1 W) y z u (hy:ByteArray.size y<=1048576) (hz:ByteArray.size z<=1048576) (hu:ByteArray.size u<=1048576)=>Tm EM b fUW (Oy t) y z u X T O W d0.o hy hz hu (c8.o.next hW) (EW (E.o W hW)) (Js b3 hW.size) c7.o c6.o b9.o D.o.1 D.o.2 d.o.six d.o.wi d.o.we d.o.key d.o.w64);have e4:=Hd (fun W (hW:Up w1 W) y z (hy:ByteArray.size y<=1048576) (hz:ByteArray.size z<=1048576)=>Tl b fUW (Oy t) y z X T O W d0.o hy hz (c8.o.next hW) (EW (E.o W hW)) (Js b3 hW.size) c7.o c6.o b9.o D.o.1 D.o.2 d.o.six d.o.wi d.o.we d.o.key);have j4:=Hd (fun W (hW:Up w1 W) y (hy:ByteArray.size y<=1048576)=>YJ b fUW (Oy t) y X T O W d0.o hy (c8.o.next hW) (EW (E.o W hW)) (Js b3 hW.size) c7.o c6.o b9.o D.o.1 D.o.2 d.o.six d.o.wi d.o.we d.o.key);have j1:=Hd (fun W (hW:Up w1 W) y z u (hy:ByteArray.size y<=1048576) (hz:ByteArray.size z<=1048576) (hu:ByteArray.size u<=1048576)=>Lk (.slice (some ⟨b,0,none⟩) 2 2) t y z u X T O W hy hz hu d.o.six (G.o W hW t X (by omega) d.o.rx) (G.o W hW X.index T D.o.1 d.o.ri) (G.o W hW X.elem O D.o.2 d.o.re) d.o.wi d.o.we d.o.key d.o.w64);have b7:=Hd (fun W (hW:Up w1 W) y z (hy:ByteArray.size y<=1048576) (hz:ByteArray.size z<=1048576)=>VM (.slice (some ⟨b,0,none⟩) 2 2) t y z X T O W hy hz d.o.six (G.o W hW t X (by omega) d.o.rx) (G.o W hW X.index T D.o.1 d.o.ri) (G.o W hW X.elem O D.o.2 d.o.re) d.o.wi d.o.we d.o.key d.o.w64);have i6:=Hd (fun W (hW:Up w1 W)=>YC b t X T O a2 n2 cap2 W d.o ht (E.o W hW) (Js b3 hW.size) ((H2.o.bl H.o).bl hW));clear hG h0 d2 HD
 go_wp2_with fail
 refine (e5.o w1 (Jj _ _) x i v (by omega) (by omega) (by omega)).mono ?_;rintro e w2 ⟨p,rfl,hp,e8⟩;have HP:=Hd hp;have d6:=Hd e8;clear hp e8
 go_wp2_with fail
 refine (j1.o w2 d6.o x i v (by omega) (by omega) (by omega)).mono ?_;rintro e w3 ⟨p2,rfl,g6,e9⟩;obtain rfl:p=p2:=HP.o.eq g6;have b5:=d6.up e9;have m8:(p.toList==p.toList)=true:=by simp
 clear g6 e9
 by_cases J:p=⟨#[]⟩
 ·have e1:(p.toList==[])=true:=by rw[J,Je];rfl
  have b6:Hid (Up w w3):=H.o.trans (b5.o.mono H.o.size);clear J
  go_wp2
  go_ret
  exact⟨rfl,b6.o⟩
 have e1:(p.toList==[])=false:=by
  rw[Jd];intro e;exact J (Kz (by rw[<-Je];exact e))
 obtain⟨r,L,r',L',hA,g9,h6,e7,hR⟩:=FG HP.o J;have U:=Hd hA;have a7:=Hd g9;have l7:=Hd h6;have V:=Hd e7;have HR:=Hd hR;have m9:p.size<=2000:=HP.o.most;clear J hA g9 h6 e7 hR
 go_wp2_with fail
 refine (i6.o w3 b5.o).mono ?_;rintro e w4 ⟨j,rfl,hj,f5⟩;have d7:=b5.up f5;clear f5
 go_wp2_with fail
 refine (e4.o w4 d7.o p i (by omega) (by omega)).mono ?_;rintro e w5 ⟨u5,rfl,h7,f7⟩;obtain rfl:u5=v:=(h7.1 r' L' V.o a7.o).trans HR.o.same;have d8:=d7.up f7;have n3:(u5.toList==u5.toList)=true:=by simp
 clear h7 f7
 go_wp2_with fail
 refine (j4.o w5 d8.o p (by omega)).mono ?_;rintro e w6 ⟨ok,rfl,g4,f8⟩;obtain rfl:ok=true:=g4.2 ⟨r',L',V.o⟩;have Z:=d8.up f8;clear g4 f8
 by_cases I:j=i
 case' pos=>
  have k0:(j.toList==i.toList)=true:=by rw[I];simp
  clear I
  go_wp2_with fail
  refine (b7.o w6 Z.o x i (by omega) (by omega)).mono ?_;rintro e w9 ⟨d5,rfl,F,a8⟩;obtain rfl:d5=K2 r L i:=F.1 r L U.o a7.o;have a6:=Z.up a8
 case' neg=>
  have k0:(j.toList==i.toList)=false:=by rw[Jd];intro e;exact I (Kz (by rw[<-Je,<-Je];exact e))
  have i7:=Hd I;clear I
  go_wp2_with fail
  refine (e4.o w6 Z.o p j (by omega) (by omega)).mono ?_;rintro e w7 ⟨g7,rfl,g3,f9⟩;have d9:=Z.up f9;have e3:=Hd g3;clear g3 f9
  go_wp2_with fail
  refine (b7.o w7 d9.o x j (by omega) (by omega)).mono ?_;rintro e w8 ⟨g8,rfl,d3,g0⟩;have e0:=d9.up g0;obtain rfl:g7=g8:=by
   by_cases K:Kg (On T) j
   ·rw[e3.o.1 r' L' V.o K,d3.1 r L U.o K];exact HR.o.other j K i7.o
   rw[e3.o.2 (fun ⟨_,_,_,h⟩=>K h),d3.2 (fun ⟨_,_,_,h⟩=>K h)]
  have m7:(g7.toList==g7.toList)=true:=by simp
  clear d3 g0
  go_wp2_with fail
  refine (b7.o w8 e0.o x i (by omega) (by omega)).mono ?_;rintro e w9 ⟨d5,rfl,F,a8⟩;obtain rfl:d5=K2 r L i:=F.1 r L U.o a7.o;have a6:=e0.up a8
 all_goals
  have g5:=(ZQ ⟨U.o.2.2.ents,U.o.2.2.sort⟩ U.o.2.2.rest i:Kg (On O) (K2 r L i));have b8:=Hd g5;obtain⟨o9,d4⟩:=O2 (K2 r L i);rw[d4] at b8 ⊢;have i8:=Hd d4;have l0:o9.size<=2000:=b8.o.1;clear F a8 g5 d4
  go_wp2_with fail
  refine (e5.o w9 a6.o p i o9 (by omega) (by omega) (by omega)).mono ?_;rintro e wx ⟨bk,rfl,g1,g2⟩;have j9:bk=x:=by
   obtain⟨r2,L2,k1,k2⟩:=g1.1 r' L' V.o a7.o b8.o;have h9:=PutR.back ⟨U.o.2.2.ents,U.o.2.2.sort⟩ HR.o (by rw[i8.o];exact k1);obtain⟨e1,e2⟩:=h9;rw[k2,e1,e2];exact MR U.o
  subst j9;have n4:(bk.toList==bk.toList)=true:=by simp
  have b6:Hid (Up w wx):=H.o.trans ((a6.o.trans (g2.mono a6.o.size)).mono H.o.size);clear g1 g2
  go_wp2
  go_ret
  exact⟨rfl,b6.o⟩
end Go.Proofs.YtjjgilacnocigaaGreatDoor
