import Derived.Test.YtipgjenolpofpaaGreatDoorP31
set_option maxRecDepth 100000
set_option maxHeartbeats 16000000
namespace Go.Proofs.YtipgjenolpofpaaGreatDoor
open Go.ChangeShapes Go.WideShapes Go.ChangeAt Go.RowKit Go.Proofs.Tryz
theorem ZQ (vs vf vt:Value)(S:List (List UInt8))(num:Tm->Bool)(F:List Fn)(T:List Tm)(n:Nat)(t:Tm)(vk:Value)(w:World)(hS:O8 w vs S)(hF:Ex w vf F)(hT:Kb w vt T)(hk:U6 w vk t.kids)(hn:n<=T.length)(_hTl:T.length<=1048576)(_hFl:F.length<=1048576)(hkl:t.kids.length<=1048576)(hop:21<=t.op/\t.op<=47)
 (hzs:t.sort.length<=1048576) (hzt:t.text.length<=1048576) (hz:∀ u∈T,u.sort.length<=1048576) (hnum:∀ w',Up w w'->Calls prog 71 #[.agg #[.int .i64 t.op,.string (Oo t.sort),.string (Oo t.text),.int .i64 t.a,.int .i64 t.b,vk]] w' fun e w''=>e=.returned (.bool (num t))/\Below w'.heap.size w' w'') :
 Calls prog 41 #[.agg #[vs,vf,vt],.int .i64 (n:Nat),.agg #[.int .i64 t.op,.string (Oo t.sort),.string (Oo t.text),.int .i64 t.a,.int .i64 t.b,vk]] w fun e w'=>e=.returned (.bool (Kd S num F T n t))/\Up w w':=by
 obtain⟨qk,dk,rfl,j9,h7,g7⟩:=hk;obtain⟨o,so,O,a,b,d⟩:=t;simp only at hzs hzt hkl j9 h7 g7 hnum hop ⊢;have l8:=Hd hop;clear hop;have HS:=Hd hS;have HF:=Hd hF;have HT:=Hd hT;have HK:=Hd g7;have HZ:=Hd hz;have o6:=Hd hnum;have HC:=Hd h7;unfold maxLen at h7;clear hS hF hT g7 hz hnum
 go_enter func41,ntmps41
 go_wp2_with fail
 obtain⟨W1,d2⟩:=O1 ((w.alloc (.cells #[vs,vf,vt] 32)).alloc (.cells #[.int .i64 o,.string (Oo so),.string (Oo O),.int .i64 a,.int .i64 b,.slice qk d.length dk] 57));have h6:Hid (Up w W1):=by unfold Hid;rw[<-d2];exact ((Jh _ _).alloc Of _).alloc (by rw[Ji];omega) _
 have j3:Hid (W1.heap.size=w.heap.size+2):=by unfold Hid;rw[<-d2];simp
 have g3:Hid (Bx W1 w.heap.size [vs,vf,vt]):=by unfold Hid;rw[<-d2];exact (Ox w _ _).alloc _
 have h8:Hid (Bx W1 (w.heap.size+1) [.int .i64 o,.string (Oo so),.string (Oo O),.int .i64 a,.int .i64 b,.slice qk d.length dk]):=by unfold Hid;rw[<-d2];have h:=Ox (w.alloc (.cells #[vs,vf,vt] 32)) [.int .i64 o,.string (Oo so),.string (Oo O),.int .i64 a,.int .i64 b,.slice qk d.length dk] 57;rw[Ji] at h;exact h
 rw[d2];clear d2;refine (Gi ⟨o,so,O,a,b,d⟩ qk dk _ j9 HC.o).mono ?_
 cases e7:Kf ⟨o,so,O,a,b,d⟩
 ·have b8:=Hd e7;clear e7;rintro e w2 ⟨rfl,b6⟩;have i8:=h6.up b6;clear b6
  go_wp2_with fail
  go_ret
  exact⟨Oz (by unfold Kd;rw[b8.o];rfl),i8.o⟩
 have b8:=Hd e7;clear e7;rintro e w2 ⟨rfl,b6⟩;have i8:=h6.up b6;have j8:=Hd (g3.o.below g3.o.lt b6);have h0:=Hd (h8.o.below h8.o.lt b6);have q7:Hid (w.heap.size+2<=w2.heap.size):=by have:=b6.size;have:=j3.o;unfold Hid;omega
 clear b6 g3 h8 h6 j3;have y5:=h0.o.cell 5;simp only[Jo,Jr] at y5;obtain⟨Z,g2⟩:=O1 (E1 T ⟨o,so,O,a,b,d⟩);have g6:=Hd g2;have e2:Hid (Z.length=d.length):=by unfold Hid;rw[<-g2];simp[E1]
 clear g2
 go_wp2_with fail
 clear y5
 go_loopw [7,20] (fun v i wr=>∃ k:Nat,k<=d.length/\i=.int .i64 (k:Nat)/\wr.ownsRow w2.heap.size 9 1 v k (U3 (Z.take k))/\(∀ j (h:j<d.length),j<k->0<=d[j]/\d[j]<(n:Int))/\Up w2 wr) (fun _ i _=>d.length - (intOf i).toNat)
 case atStart=>exact⟨0,Jy _,rfl,⟨rfl,.inl ⟨rfl,rfl⟩⟩,fun j _ h=>absurd h (J1 _),Jh _ _⟩
 case round=>
  obtain⟨k,hk,rfl,d8,hp,d7⟩:=hrel;have d1:=Hd d8;have HP:=Hd hp;have i7:=Hd d7;have I:=i8.up d7;have n5:=Hd (j8.o.below j8.o.lt d7);have c6:=Hd (h0.o.below h0.o.lt d7);obtain⟨p7,c7,rfl⟩:=Eg d8;clear d8 hp d7;obtain⟨b0,b1,b2⟩:=n5.o.c3;obtain⟨t0,t1,t2,t3,t4,t5⟩:=c6.o.k6
  by_cases e4:k<d.length
  ·rcases HK.o with e0|⟨bq,rfl,d6,U⟩
   ·rw[e0] at e4;cases e4
   have cx:=(I.o.cell (p:=⟨bq,k,none⟩) d6).trans (U k e4);clear U;have i0:(0:Int)<=(k:Int):=by omega
   have i1:(k:Int)<(d.length:Int):=by omega
   by_cases hx:0<=d[k]/\d[k]<(n:Int)
   ·have n6:=Hd hx;have j2:Hid (∀ h:k<Z.length,Z[k]=(Ky T d[k]).sort):=by
     intro h;have e:=g6.o;subst e;simp[E1]
    obtain⟨y,hy⟩:∃ y:Nat,d[k]=(y:Int):=⟨d[k].toNat,by omega⟩;rw[hy] at cx hx j2;have HY:=Hd hy;clear hy;obtain⟨pt,ct,rfl,k1,e6,e5⟩:=HT.o;unfold maxLen at e6
    rcases e5 with e0|⟨bt,rfl,M,U⟩
    ·rw[e0] at hn;simp at hn;omega
    have b5:y<T.length:=by omega
    obtain⟨-,c1,-⟩:=U y b5;have c1:=(I.o.cell (p:=⟨bt,y*6+1,none⟩) M).trans c1;clear U;have j6:Hid ((Ky T (y:Int)).sort=T[y].sort):=by unfold Hid Ky;simp[List.getElem?_eq_getElem b5]
    generalize T[y].sort=sy at c1 j6;have i2:(y:Int)<(n:Int):=by omega
    have i3:(y:Int)<(T.length:Int):=by omega
    have i4:(0:Int)<=(y:Int):=by omega
    have i5:decide ((n:Int)<=(y:Int))=false:=dF (by omega)
    have i6:y<n:=by omega
    go_wp2_with (at_builtin;refine Nr (t:=Oo sy) (n:=k) (base:=w2.heap.size) (xs:=U3 (Z.take k)) rfl _ _ rfl rfl ?own _ rfl ?hH ?hn ?hb ?_)
    case own=>exact d1.o
    case hH=>rfl
    case hn=>omega
    case hb=>exact i7.o.size
    intro g5 c5 w5 e3 f5 j1;have l6:Hid (Up w2 w5):=Nl i7.o d1.o f5 i7.o.size;have n9:Hid (w5.ownsRow w2.heap.size 9 1 (.slice (some ⟨g5,0,none⟩) (k+1) c5) (k+1) (U3 (Z.take (k+1)))):=by
     have hl:=e2.o;unfold Hid;rw[Ge (by omega),j2.o (by omega),j6.o];exact e3
    clear e3 f5 j1
    go_wp2_with fail
    go_roundw
    case rel=>exact⟨k+1,by omega,by go_num,n9.o,fun j hj h2=>by
     rcases J0.1 h2 with h|rfl
     ·exact HP.o j hj h
     ·exact n6.o,l6.o⟩
    case measure=>simp[intOf];omega
   ·have FR:Hid (Kd S num F T n ⟨o,so,O,a,b,d⟩=false):=by
     unfold Hid Kd;have:I6 n ⟨o,so,O,a,b,d⟩=false:=by
      unfold I6;rw[J9];intro h;exact hx (by simpa using Ju.1 h d[k] (Jw e4))
     rw[this,Y0,Uj]
    generalize d[k]=x at cx hx
    by_cases m6:x<0
    ·clear hx
     go_wp2_with fail
     go_ret
     exact⟨Oz FR.o.symm,I.o⟩
    ·have r9:(n:Int)<=x:=by omega
     have r4:¬ x<0:=m6;clear hx
     go_wp2_with fail
     go_ret
     exact⟨Oz FR.o.symm,I.o⟩
  ·obtain rfl:k=d.length:=by omega
   have j5:Hid (I6 n ⟨o,so,O,a,b,d⟩=true):=by
    unfold Hid I6;rw[Ju];intro x hx;obtain⟨j,hj,rfl⟩:=Ya hx
    simpa using HP.o j hj hj
   have d0:Hid (Kd S num F T n ⟨o,so,O,a,b,d⟩=Nz (Ov (On S)) num F T ⟨o,so,O,a,b,d⟩ Z):=by
    unfold Hid Kd;rw[b8.o,j5.o,g6.o];rfl
   have j7:O8 wr (.slice p7 d.length c7) Z:=by
    have h:=d1.o;rw[<-e2.o,Yl] at h;rw[<-e2.o];exact I3 h rfl
   have e8:=Hd j7;clear j7 e4 d1 hk
   go_upto_region 11 with fail
   go_cut [10] (fun s10 wx=>s10=.bool (Oa so)/\wx=wr)
   case first=>
    rcases U8 so [73,110,116] with⟨K,q0⟩|⟨K,q0⟩
    ·have F:Hid (Oa so=true):=by unfold Hid Oa;rw[Jb (show so=Kn from K)];rfl
     clear K
     go_wp2_with fail
     go_meet
     exact⟨by rw[F.o],rfl⟩
    ·rcases U8 so [82,101,97,108] with⟨Y,q1⟩|⟨Y,q1⟩
     ·have F:Hid (Oa so=true):=by unfold Hid Oa;rw[Jb (show so=Ki from Y),Vp]
      clear K Y
      go_wp2_with fail
      go_meet
      exact⟨by rw[F.o],rfl⟩
     ·have F:Hid (Oa so=false):=by unfold Hid Oa;rw[Jg (show so≠Kn from K),Jg (show so≠Ki from Y)];rfl
      clear K Y
      go_wp2_with fail
      go_meet
      exact⟨by rw[F.o],rfl⟩
   case rest=>
    obtain⟨rfl,rfl⟩:=hcut
    rcases (show o=21∨o=22∨o=23∨(24<=o/\o<=47) by have:=l8.o;omega) with rfl|rfl|rfl|hdf
    ·have A:Hid (Kd S num F T n ⟨21,so,O,a,b,d⟩=(decide (so=Kn)&&K1 Z Kn&&decide ((Ky T ((d[1]?).getD 0)).op=12)&&decide ((Ky T ((d[1]?).getD 0)).text≠[48]))):=by unfold Hid;rw[d0.o];rfl
     have j4:2<=d.length:=by have:=(Kt b8.o).1;simpa[Kg] using this
     have V:1<d.length:=by omega
     rcases HK.o with e0|⟨bq,rfl,d6,d4⟩
     ·rw[e0] at V;cases V
     have cx:=(I.o.cell (p:=⟨bq,1,none⟩) d6).trans (d4 1 V);clear d4;have hx:=HP.o 1 V V;have n3:(1:Int)<(d.length:Int):=by omega
     have d5:(d[1]?).getD 0=d[1]:=by rw[Jf V];rfl
     rw[d5] at A;obtain⟨y,hy⟩:∃ y:Nat,d[1]=(y:Int):=⟨d[1].toNat,by omega⟩;rw[hy] at cx hx A;clear hy d5;obtain⟨pt,ct,rfl,k1,e6,e5⟩:=HT.o;unfold maxLen at e6
     rcases e5 with e0|⟨bt,rfl,M,U⟩
     ·rw[e0] at hn;simp at hn;omega
     have b5:y<T.length:=by omega
     obtain⟨c0,c1,c2,c3,c4,va,c5,pa,ca,rfl,-,-,-⟩:=U y b5;have c0:=(I.o.cell (p:=⟨bt,y*6,none⟩) M).trans c0;have c1:=(I.o.cell (p:=⟨bt,y*6+1,none⟩) M).trans c1;have c2:=(I.o.cell (p:=⟨bt,y*6+2,none⟩) M).trans c2;have c3:=(I.o.cell (p:=⟨bt,y*6+3,none⟩) M).trans c3;have c4:=(I.o.cell (p:=⟨bt,y*6+4,none⟩) M).trans c4;have c5:=(I.o.cell (p:=⟨bt,y*6+5,none⟩) M).trans c5;clear U;rw[XO b5] at A;generalize T[y]=u at c0 c1 c2 c3 c4 c5 A;have i2:(y:Int)<(T.length:Int):=by omega
     have i4:(0:Int)<=(y:Int):=by omega
     obtain⟨W9,rfl⟩:∃ W9,W9=wc:=⟨_,rfl⟩;have l1:w.heap.size+1<W9.heap.size:=c6.o.lt;have l2:w.heap.size<W9.heap.size:=by omega
     have l3:bq<W9.heap.size:=by omega
     have l4:bt<W9.heap.size:=by omega
     have d9:Hid (Bx ((W9.alloc (.cells #[.int .i64 u.op,.string (Oo u.sort),.string (Oo u.text),.int .i64 u.a,.int .i64 u.b,.slice pa u.kids.length ca] 57)).drew) W9.heap.size [.int .i64 u.op,.string (Oo u.sort),.string (Oo u.text),.int .i64 u.a,.int .i64 u.b,.slice pa u.kids.length ca]):=(Ox _ _ _).drew
     go_upto_region 53 with fail
     go_cut [13] (fun s13 wx=>s13=.pointer (some ⟨W9.heap.size,0,none⟩)/\Bx wx W9.heap.size [.int .i64 u.op,.string (Oo u.sort),.string (Oo u.text),.int .i64 u.a,.int .i64 u.b,.slice pa u.kids.length ca]/\Up W9 wx)
     case first=>
      go_region
      all_goals (go_wp2_with fail;go_meet;exact⟨rfl,d9.o,(Oy _ _).drew⟩)
     case rest=>
      obtain⟨rfl,b7,b4⟩:=hcut;have a8:=I.up b4;have b3:=Hd (e8.o.below b4);have b9:=c6.o.below c6.o.lt b4;have x0:=b7.cell 0;have x2:=b7.cell 2;have t0:=b9.cell 0;have t1:=b9.cell 1;simp only[Jo,Jr] at x0 x2 t0 t1;clear b7 b4 b9 c0 c1 c2 c3 c4 c5 cx l1 l2 l3 l4 d9
      rcases U8 so [73,110,116] with⟨K,q0⟩|⟨K,q0⟩
      ·cases J:K1 Z Kn
       ·have a7:=Hd J;have G:Hid (Kd S num F T n ⟨21,so,O,a,b,d⟩=false):=by unfold Hid;rw[A.o,Jb (show so=Kn from K),J];rfl
        clear J K
        go_wp2_with fail
        refine (Kv _ Z ⟨#[73,110,116]⟩ _ b3.o).mono ?_;rw[show (⟨#[73,110,116]⟩:ByteArray).data.toList=Kn from rfl,a7.o];rintro e w6 ⟨rfl,rfl⟩
        go_wp2_with fail
        go_ret
        exact⟨Oz G.o.symm,a8.o⟩
       ·have a7:=Hd J
        rcases Em u.op 12 with⟨Y,q1⟩|⟨Y,q1⟩
        ·rcases U8 u.text [48] with⟨p2,q2⟩|⟨p2,q2⟩
         ·have G:Hid (Kd S num F T n ⟨21,so,O,a,b,d⟩=false):=by unfold Hid;rw[A.o,Jb (show so=Kn from K),J,Jb Y,Jg (fun h=>h p2)];rfl
          clear J K Y p2
          go_wp2_with fail
          refine (Kv _ Z ⟨#[73,110,116]⟩ _ b3.o).mono ?_;rw[show (⟨#[73,110,116]⟩:ByteArray).data.toList=Kn from rfl,a7.o];rintro e w6 ⟨rfl,rfl⟩
          go_wp2_with fail
          go_ret
          exact⟨Oz G.o.symm,a8.o⟩
         ·have G:Hid (Kd S num F T n ⟨21,so,O,a,b,d⟩=true):=by unfold Hid;rw[A.o,Jb (show so=Kn from K),J,Jb Y,Jb p2];rfl
          clear J K Y p2
          go_wp2_with fail
          refine (Kv _ Z ⟨#[73,110,116]⟩ _ b3.o).mono ?_;rw[show (⟨#[73,110,116]⟩:ByteArray).data.toList=Kn from rfl,a7.o];rintro e w6 ⟨rfl,rfl⟩
          go_wp2_with fail
          go_ret
          exact⟨Oz G.o.symm,a8.o⟩
        ·have G:Hid (Kd S num F T n ⟨21,so,O,a,b,d⟩=false):=by unfold Hid;rw[A.o,Jb (show so=Kn from K),J,Jg Y];rfl
         clear J K Y
         go_wp2_with fail
         refine (Kv _ Z ⟨#[73,110,116]⟩ _ b3.o).mono ?_;rw[show (⟨#[73,110,116]⟩:ByteArray).data.toList=Kn from rfl,a7.o];rintro e w6 ⟨rfl,rfl⟩
         go_wp2_with fail
         go_ret
         exact⟨Oz G.o.symm,a8.o⟩
      ·have G:Hid (Kd S num F T n ⟨21,so,O,a,b,d⟩=false):=by unfold Hid;rw[A.o,Jg (show so≠Kn from K)];rfl
       clear K
       go_wp2_with fail
       go_ret
       exact⟨Oz G.o.symm,a8.o⟩
    ·have A:Hid (Kd S num F T n ⟨22,so,O,a,b,d⟩=(decide (so=Kn)&&K1 Z Kn&&decide ((Ky T ((d[1]?).getD 0)).op=12)&&decide ((Ky T ((d[1]?).getD 0)).text≠[48]))):=by unfold Hid;rw[d0.o];rfl
     have j4:2<=d.length:=by have:=(Kt b8.o).1;simpa[Kg] using this
     have V:1<d.length:=by omega
     rcases HK.o with e0|⟨bq,rfl,d6,d4⟩
     ·rw[e0] at V;cases V
     have cx:=(I.o.cell (p:=⟨bq,1,none⟩) d6).trans (d4 1 V);clear d4;have hx:=HP.o 1 V V;have n3:(1:Int)<(d.length:Int):=by omega
     have d5:(d[1]?).getD 0=d[1]:=by rw[Jf V];rfl
     rw[d5] at A;obtain⟨y,hy⟩:∃ y:Nat,d[1]=(y:Int):=⟨d[1].toNat,by omega⟩;rw[hy] at cx hx A;clear hy d5;obtain⟨pt,ct,rfl,k1,e6,e5⟩:=HT.o;unfold maxLen at e6
     rcases e5 with e0|⟨bt,rfl,M,U⟩
     ·rw[e0] at hn;simp at hn;omega
     have b5:y<T.length:=by omega
     obtain⟨c0,c1,c2,c3,c4,va,c5,pa,ca,rfl,-,-,-⟩:=U y b5;have c0:=(I.o.cell (p:=⟨bt,y*6,none⟩) M).trans c0;have c1:=(I.o.cell (p:=⟨bt,y*6+1,none⟩) M).trans c1;have c2:=(I.o.cell (p:=⟨bt,y*6+2,none⟩) M).trans c2;have c3:=(I.o.cell (p:=⟨bt,y*6+3,none⟩) M).trans c3;have c4:=(I.o.cell (p:=⟨bt,y*6+4,none⟩) M).trans c4;have c5:=(I.o.cell (p:=⟨bt,y*6+5,none⟩) M).trans c5;clear U;rw[XO b5] at A;generalize T[y]=u at c0 c1 c2 c3 c4 c5 A;have i2:(y:Int)<(T.length:Int):=by omega
     have i4:(0:Int)<=(y:Int):=by omega
     obtain⟨W9,rfl⟩:∃ W9,W9=wc:=⟨_,rfl⟩;have l1:w.heap.size+1<W9.heap.size:=c6.o.lt;have l2:w.heap.size<W9.heap.size:=by omega
     have l3:bq<W9.heap.size:=by omega
     have l4:bt<W9.heap.size:=by omega
     have d9:Hid (Bx ((W9.alloc (.cells #[.int .i64 u.op,.string (Oo u.sort),.string (Oo u.text),.int .i64 u.a,.int .i64 u.b,.slice pa u.kids.length ca] 57)).drew) W9.heap.size [.int .i64 u.op,.string (Oo u.sort),.string (Oo u.text),.int .i64 u.a,.int .i64 u.b,.slice pa u.kids.length ca]):=(Ox _ _ _).drew
     go_upto_region 53 with fail
     go_cut [13] (fun s13 wx=>s13=.pointer (some ⟨W9.heap.size,0,none⟩)/\Bx wx W9.heap.size [.int .i64 u.op,.string (Oo u.sort),.string (Oo u.text),.int .i64 u.a,.int .i64 u.b,.slice pa u.kids.length ca]/\Up W9 wx)
     case first=>
      go_region
      all_goals (go_wp2_with fail;go_meet;exact⟨rfl,d9.o,(Oy _ _).drew⟩)
     case rest=>
      obtain⟨rfl,b7,b4⟩:=hcut;have a8:=I.up b4;have b3:=Hd (e8.o.below b4);have b9:=c6.o.below c6.o.lt b4;have x0:=b7.cell 0;have x2:=b7.cell 2;have t0:=b9.cell 0;have t1:=b9.cell 1;simp only[Jo,Jr] at x0 x2 t0 t1;clear b7 b4 b9 c0 c1 c2 c3 c4 c5 cx l1 l2 l3 l4 d9
      rcases U8 so [73,110,116] with⟨K,q0⟩|⟨K,q0⟩
      ·cases J:K1 Z Kn
       ·have a7:=Hd J;have G:Hid (Kd S num F T n ⟨22,so,O,a,b,d⟩=false):=by unfold Hid;rw[A.o,Jb (show so=Kn from K),J];rfl
        clear J K
        go_wp2_with fail
        refine (Kv _ Z ⟨#[73,110,116]⟩ _ b3.o).mono ?_;rw[show (⟨#[73,110,116]⟩:ByteArray).data.toList=Kn from rfl,a7.o];rintro e w6 ⟨rfl,rfl⟩
        go_wp2_with fail
        go_ret
        exact⟨Oz G.o.symm,a8.o⟩
       ·have a7:=Hd J
        rcases Em u.op 12 with⟨Y,q1⟩|⟨Y,q1⟩
        ·rcases U8 u.text [48] with⟨p2,q2⟩|⟨p2,q2⟩
         ·have G:Hid (Kd S num F T n ⟨22,so,O,a,b,d⟩=false):=by unfold Hid;rw[A.o,Jb (show so=Kn from K),J,Jb Y,Jg (fun h=>h p2)];rfl
          clear J K Y p2
          go_wp2_with fail
          refine (Kv _ Z ⟨#[73,110,116]⟩ _ b3.o).mono ?_;rw[show (⟨#[73,110,116]⟩:ByteArray).data.toList=Kn from rfl,a7.o];rintro e w6 ⟨rfl,rfl⟩
          go_wp2_with fail
          go_ret
          exact⟨Oz G.o.symm,a8.o⟩
         ·have G:Hid (Kd S num F T n ⟨22,so,O,a,b,d⟩=true):=by unfold Hid;rw[A.o,Jb (show so=Kn from K),J,Jb Y,Jb p2];rfl
          clear J K Y p2
          go_wp2_with fail
          refine (Kv _ Z ⟨#[73,110,116]⟩ _ b3.o).mono ?_;rw[show (⟨#[73,110,116]⟩:ByteArray).data.toList=Kn from rfl,a7.o];rintro e w6 ⟨rfl,rfl⟩
          go_wp2_with fail
          go_ret
          exact⟨Oz G.o.symm,a8.o⟩
        ·have G:Hid (Kd S num F T n ⟨22,so,O,a,b,d⟩=false):=by unfold Hid;rw[A.o,Jb (show so=Kn from K),J,Jg Y];rfl
         clear J K Y
         go_wp2_with fail
         refine (Kv _ Z ⟨#[73,110,116]⟩ _ b3.o).mono ?_;rw[show (⟨#[73,110,116]⟩:ByteArray).data.toList=Kn from rfl,a7.o];rintro e w6 ⟨rfl,rfl⟩
         go_wp2_with fail
         go_ret
         exact⟨Oz G.o.symm,a8.o⟩
      ·have G:Hid (Kd S num F T n ⟨22,so,O,a,b,d⟩=false):=by unfold Hid;rw[A.o,Jg (show so≠Kn from K)];rfl
       clear K
       go_wp2_with fail
       go_ret
       exact⟨Oz G.o.symm,a8.o⟩
    ·have A:Hid (Kd S num F T n ⟨23,so,O,a,b,d⟩=(decide (so=Ki)&&decide (kS Z 0=Kn))):=by unfold Hid;rw[d0.o];rfl
     have V:1<=d.length:=by have:=(Kt b8.o).1;simpa[Kg] using this
     have r6:1<=Z.length:=by have:=e2.o;omega
     obtain⟨bs,rfl,U⟩:=Nn e8.o (by omega);have l9:=U 0 (by omega);have h9:=If (L:=Z) (i:=0) (by omega);have s0:(0:Int)<(d.length:Int):=by omega
     rw[h9] at A;generalize Z[0]=k0 at l9 A h9;clear U h9
     rcases U8 so [82,101,97,108] with⟨K,q0⟩|⟨K,q0⟩
     ·rcases U8 k0 [73,110,116] with⟨Y,q1⟩|⟨Y,q1⟩
      ·have G:Hid (Kd S num F T n ⟨23,so,O,a,b,d⟩=true):=by unfold Hid;rw[A.o,Jb (show so=Ki from K),Jb (show k0=Kn from Y)]<;>rfl
       clear K Y
       go_wp2_with fail
       go_ret
       exact⟨Oz G.o.symm,I.o⟩
      ·have G:Hid (Kd S num F T n ⟨23,so,O,a,b,d⟩=false):=by unfold Hid;rw[A.o,Jb (show so=Ki from K),Jg (show k0≠Kn from Y)]<;>rfl
       clear K Y
       go_wp2_with fail
       go_ret
       exact⟨Oz G.o.symm,I.o⟩
     ·have G:Hid (Kd S num F T n ⟨23,so,O,a,b,d⟩=false):=by unfold Hid;rw[A.o,Jg (show so≠Ki from K)]<;>rfl
      clear K
      go_wp2_with fail
      go_ret
      exact⟨Oz G.o.symm,I.o⟩
    ·have E:=Hd hdf;clear hdf;have z1:(o==1)=false:=by rw[Jc];have:=E.o;omega
     have z2:(o==2)=false:=by rw[Jc];have:=E.o;omega
     have z3:(o==3)=false:=by rw[Jc];have:=E.o;omega
     have z4:(o==4)=false:=by rw[Jc];have:=E.o;omega
     have z5:(o==5)=false:=by rw[Jc];have:=E.o;omega
     have z6:(o==6)=false:=by rw[Jc];have:=E.o;omega
     have z7:(o==7)=false:=by rw[Jc];have:=E.o;omega
     have z8:(o==8)=false:=by rw[Jc];have:=E.o;omega
     have z9:(o==9)=false:=by rw[Jc];have:=E.o;omega
     have q5:(o==10)=false:=by rw[Jc];have:=E.o;omega
     have r8:(o==11)=false:=by rw[Jc];have:=E.o;omega
     have p9:(o==12)=false:=by rw[Jc];have:=E.o;omega
     have p5:(o==13)=false:=by rw[Jc];have:=E.o;omega
     have q3:(o==14)=false:=by rw[Jc];have:=E.o;omega
     have r5:(o==15)=false:=by rw[Jc];have:=E.o;omega
     have p8:(o==16)=false:=by rw[Jc];have:=E.o;omega
     have p4:(o==17)=false:=by rw[Jc];have:=E.o;omega
     have q6:(o==18)=false:=by rw[Jc];have:=E.o;omega
     have o8:(o==19)=false:=by rw[Jc];have:=E.o;omega
     have z20:(o==20)=false:=by rw[Jc];have:=E.o;omega
     have z21:(o==21)=false:=by rw[Jc];have:=E.o;omega
     have z22:(o==22)=false:=by rw[Jc];have:=E.o;omega
     have q9:(o==23)=false:=by rw[Jc];have:=E.o;omega
     have A:Hid (Kd S num F T n ⟨o,so,O,a,b,d⟩=Oj (Ov (On S)) ⟨o,so,O,a,b,d⟩ Z):=by
      have h:=E.o;unfold Hid;rw[d0.o];unfold Nz;simp only;rw[if_neg (by omega),if_neg (by omega),if_neg (by omega),if_neg (by omega),if_neg (by omega),if_neg (by omega),if_neg (by omega),if_neg (by omega),if_neg (by omega),if_neg (by omega),if_neg (by omega)]
     generalize hB:Oj (Ov (On S)) ⟨o,so,O,a,b,d⟩ Z=B at A;have l7:=Hd hB;clear hB
     go_wp2_with fail
     refine (Be vs vf vt S ⟨o,so,O,a,b,d⟩ _ _ Z _ (HS.o.below I.o) e8.o hzs hzt (fun k hk=>?_) ?_ E.o).mono ?_
     ·have e:=g6.o;subst e;obtain⟨x,hx,rfl⟩:=Zm.1 hk;have h1:0<=x/\x<(n:Int):=by simpa using Ju.1 j5.o x hx
      have h2:Ky T x∈T:=by
       unfold Ky;rw[Jf (by omega)];exact Jw _
      exact HZ.o _ h2
     ·rw[e2.o];exact (Kt b8.o).1
     rw[l7.o];rintro e w6 ⟨rfl,j0⟩;have n2:=I.up j0;clear j0
     go_wp2_with fail
     go_ret
     exact⟨Oz A.o.symm,n2.o⟩
end Go.Proofs.YtipgjenolpofpaaGreatDoor
