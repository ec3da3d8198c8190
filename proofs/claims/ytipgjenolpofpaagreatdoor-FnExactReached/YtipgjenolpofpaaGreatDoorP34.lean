import Derived.Test.YtipgjenolpofpaaGreatDoorP31
set_option maxRecDepth 100000
set_option maxHeartbeats 16000000
namespace Go.Proofs.YtipgjenolpofpaaGreatDoor
open ChangeShapes WideShapes ChangeAt RowKit Proofs.Tryz
theorem YM (vs vf vt:Value)(S:List (List UInt8))(num:Tm->Bool)(F:List Fn)(T:List Tm)(n:Nat)(t:Tm)(vk:Value)(w:World)(hS:O8 w vs S)(hF:Eh w vf F)(hT:Km w vt T)(hk:U5 w vk t.kids)(hn:n<=T.length)(_hTl:T.length<=1048576)(_hFl:F.length<=1048576)(hkl:t.kids.length<=1048576)(hop:21<=t.op/\t.op<=47)
 (hzs:t.sort.length<=1048576) (hzt:t.text.length<=1048576) (hz:∀ u∈T,u.sort.length<=1048576) (hnum:∀ w',Up w w'->Calls prog 71 #[.agg #[.int .i64 t.op,.string (Oo t.sort),.string (Oo t.text),.int .i64 t.a,.int .i64 t.b,vk]] w' fun e w''=>e=.returned (.bool (num t))/\Below w'.heap.size w' w'') :
 Calls prog 41 #[.agg #[vs,vf,vt],.int .i64 (n:Nat),.agg #[.int .i64 t.op,.string (Oo t.sort),.string (Oo t.text),.int .i64 t.a,.int .i64 t.b,vk]] w fun e w'=>e=.returned (.bool (Kc S num F T n t))/\Up w w':=by
 obtain⟨qk,dk,rfl,k1,h6,h7⟩:=hk;obtain⟨o,so,O,a,b,d⟩:=t;simp only at hzs hzt hkl k1 h6 h7 hnum hop ⊢;have m5:=Hd hop;clear hop;have HS:=Hd hS;have HF:=Hd hF;have HT:=Hd hT;have HK:=Hd h7;have HZ:=Hd hz;have o1:=Hd hnum;have HC:=Hd h6;unfold maxLen at h6;clear hS hF hT h7 hz hnum
 go_in
 go_wp2_with fail
 obtain⟨W1,d2⟩:=O1 ((w.alloc (.cells #[vs,vf,vt] 32)).alloc (.cells #[.int .i64 o,.string (Oo so),.string (Oo O),.int .i64 a,.int .i64 b,.slice qk d.length dk] 57));have g0:Hid (Up w W1):=by unfold Hid;rw[<-d2];exact ((Jh _ _).alloc Of _).alloc (by rw[Ji];omega) _
 have j2:Hid (W1.heap.size=w.heap.size+2):=by unfold Hid;rw[<-d2];simp
 have g4:Hid (Bx W1 w.heap.size [vs,vf,vt]):=by unfold Hid;rw[<-d2];exact (Oi w _ _).alloc _
 have g6:Hid (Bx W1 (w.heap.size+1) [.int .i64 o,.string (Oo so),.string (Oo O),.int .i64 a,.int .i64 b,.slice qk d.length dk]):=by unfold Hid;rw[<-d2];have h:=Oi (w.alloc (.cells #[vs,vf,vt] 32)) [.int .i64 o,.string (Oo so),.string (Oo O),.int .i64 a,.int .i64 b,.slice qk d.length dk] 57;rw[Ji] at h;exact h
 rw[d2];clear d2;refine (Ge ⟨o,so,O,a,b,d⟩ qk dk _ k1 HC.o).mono ?_
 cases e8:Kf ⟨o,so,O,a,b,d⟩
 ·have b7:=Hd e8;clear e8;rintro e w2 ⟨rfl,b5⟩;have g1:=g0.up b5;clear b5
  go_wp2
  go_ret
  exact⟨Oz (by unfold Kc;rw[b7.o];rfl),g1.o⟩
 have b7:=Hd e8;clear e8;rintro e w2 ⟨rfl,b5⟩;have g1:=g0.up b5;have j4:=Hd (g4.o.bl g4.o.lt b5);have g7:=Hd (g6.o.bl g6.o.lt b5);have p3:Hid (w.heap.size+2<=w2.heap.size):=by have:=b5.size;have:=j2.o;unfold Hid;omega
 clear b5 g4 g6 g0 j2;have y5:=g7.o.cell 5;simp only[Jo,Jr] at y5;obtain⟨Y,h0⟩:=O1 (E1 T ⟨o,so,O,a,b,d⟩);have g3:=Hd h0;have d4:Hid (Y.length=d.length):=by unfold Hid;rw[<-h0];simp[E1]
 clear h0
 go_wp2_with fail
 clear y5
 go_loopw [7,20] (fun v i wr=>∃ k:Nat,k<=d.length/\i=.int .i64 (k:Nat)/\wr.ownsRow w2.heap.size 9 1 v k (U3 (Y.take k))/\(∀ j (h:j<d.length),j<k->0<=d[j]/\d[j]<(n:Int))/\Up w2 wr) (fun _ i _=>d.length - (intOf i).toNat)
 case atStart=>exact⟨0,Jy _,rfl,⟨rfl,.inl ⟨rfl,rfl⟩⟩,fun j _ h=>absurd h (J2 _),Jh _ _⟩
 obtain⟨k,hk,rfl,e2,hp,d8⟩:=hrel;have c8:=Hd e2;have HP:=Hd hp;have g2:=Hd d8;have E:=g1.up d8;have m8:=Hd (j4.o.bl j4.o.lt d8);have b8:=Hd (g7.o.bl g7.o.lt d8);obtain⟨p7,c7,rfl⟩:=En e2;clear e2 hp d8;obtain⟨b0,b1,b2⟩:=m8.o.c3;obtain⟨t0,t1,t2,t3,t4,t5⟩:=b8.o.k6
 by_cases e1:k<d.length
 ·rcases HK.o with e0|⟨bq,rfl,d7,U⟩
  ·rw[e0] at e1;cases e1
  have cx:=(E.o.cell (p:=⟨bq,k,none⟩) d7).trans (U k e1);clear U;have i0:(0:Int)<=(k:Int):=by omega
  have i1:(k:Int)<(d.length:Int):=by omega
  by_cases hx:0<=d[k]/\d[k]<(n:Int)
  ·have m7:=Hd hx;have j1:Hid (∀ h:k<Y.length,Y[k]=(Ky T d[k]).sort):=by
    intro h;have e:=g3.o;subst e;simp[E1]
   obtain⟨y,hy⟩:∃ y:Nat,d[k]=(y:Int):=⟨d[k].toNat,by omega⟩;rw[hy] at cx hx j1;have HY:=Hd hy;clear hy;obtain⟨pt,ct,rfl,j9,e4,e5⟩:=HT.o;unfold maxLen at e4
   rcases e5 with e0|⟨bt,rfl,M,U⟩
   ·rw[e0] at hn;simp at hn;omega
   have b6:y<T.length:=by omega
   obtain⟨-,c1,-⟩:=U y b6;have c1:=(E.o.cell (p:=⟨bt,y*6+1,none⟩) M).trans c1;clear U;have j3:Hid ((Ky T (y:Int)).sort=T[y].sort):=by unfold Hid Ky;simp[List.getElem?_eq_getElem b6]
   generalize T[y].sort=sy at c1 j3;have i2:(y:Int)<(n:Int):=by omega
   have i3:(y:Int)<(T.length:Int):=by omega
   have i4:(0:Int)<=(y:Int):=by omega
   have i5:decide ((n:Int)<=(y:Int))=false:=dF (by omega)
   have i6:y<n:=by omega
   go_wp2_with (at_builtin;refine Ns (t:=Oo sy) (n:=k) (base:=w2.heap.size) (xs:=U3 (Y.take k)) rfl _ _ rfl rfl ?own _ rfl ?hH ?hn ?hb ?_)
   case own=>exact c8.o
   case hH=>rfl
   case hn=>omega
   case hb=>exact g2.o.size
   intro g5 c5 w5 e3 f8 j5;have l5:Hid (Up w2 w5):=Nq g2.o c8.o f8 g2.o.size;have l9:Hid (w5.ownsRow w2.heap.size 9 1 (.slice (some ⟨g5,0,none⟩) (k+1) c5) (k+1) (U3 (Y.take (k+1)))):=by
    have hl:=d4.o;unfold Hid;rw[Gh (by omega),j1.o (by omega),j3.o];exact e3
   clear e3 f8 j5
   go_wp2
   go_roundw
   case rel=>exact⟨k+1,by omega,by go_num,l9.o,fun j hj h2=>by
    rcases J0.1 h2 with h|rfl
    ·exact HP.o j hj h
    exact m7.o,l5.o⟩
   simp[intOf];omega
  have FR:Hid (Kc S num F T n ⟨o,so,O,a,b,d⟩=false):=by
   unfold Hid Kc;have:Xz n ⟨o,so,O,a,b,d⟩=false:=by
    unfold Xz;rw[J9];intro h;exact hx (by simpa using Ju.1 h d[k] (Jw e1))
   rw[this,Y0,Uj]
  generalize d[k]=x at cx hx
  by_cases n0:x<0
  ·clear hx
   go_wp2
   go_ret
   exact⟨Oz FR.o.symm,E.o⟩
  have p8:(n:Int)<=x:=by omega
  have p9:¬ x<0:=n0;clear hx
  go_wp2
  go_ret
  exact⟨Oz FR.o.symm,E.o⟩
 obtain rfl:k=d.length:=by omega
 have j0:Hid (Xz n ⟨o,so,O,a,b,d⟩=true):=by
  unfold Hid Xz;rw[Ju];intro x hx;obtain⟨j,hj,rfl⟩:=Ya hx
  simpa using HP.o j hj hj
 have d0:Hid (Kc S num F T n ⟨o,so,O,a,b,d⟩=Nv (Ov (On S)) num F T ⟨o,so,O,a,b,d⟩ Y):=by
  unfold Hid Kc;rw[b7.o,j0.o,g3.o];rfl
 have j8:O8 wr (.slice p7 d.length c7) Y:=by
  have h:=c8.o;rw[<-d4.o,Yl] at h;rw[<-d4.o];exact I2 h rfl
 have e7:=Hd j8;clear j8 e1 c8 hk
 go_upto_region 11 with fail
 go_cut [10] (fun s10 wx=>s10=.bool (Oa so)/\wx=wr)
 case first=>
  rcases U8 so [73,110,116] with⟨K,q0⟩|⟨K,q0⟩
  ·have F:Hid (Oa so=true):=by unfold Hid Oa;rw[Jb (show so=Kn from K)];rfl
   clear K
   go_wp2
   go_meet
   exact⟨by rw[F.o],rfl⟩
  rcases U8 so [82,101,97,108] with⟨Z,q1⟩|⟨Z,q1⟩
  ·have F:Hid (Oa so=true):=by unfold Hid Oa;rw[Jb (show so=Ki from Z),Vt]
   clear K Z
   go_wp2
   go_meet
   exact⟨by rw[F.o],rfl⟩
  have F:Hid (Oa so=false):=by unfold Hid Oa;rw[Jg (show so≠Kn from K),Jg (show so≠Ki from Z)];rfl
  clear K Z
  go_wp2
  go_meet
  exact⟨by rw[F.o],rfl⟩
 obtain⟨rfl,rfl⟩:=hcut
 rcases (show o=21∨o=22∨o=23∨(24<=o/\o<=47) by have:=m5.o;omega) with rfl|rfl|rfl|hdf
 ·have A:Hid (Kc S num F T n ⟨21,so,O,a,b,d⟩=(decide (so=Kn)&&K1 Y Kn&&decide ((Ky T ((d[1]?).getD 0)).op=12)&&decide ((Ky T ((d[1]?).getD 0)).text≠[48]))):=by unfold Hid;rw[d0.o];rfl
  have j7:2<=d.length:=by have:=(Kw b7.o).1;simpa[Kh] using this
  have V:1<d.length:=by omega
  rcases HK.o with e0|⟨bq,rfl,d7,d9⟩
  ·rw[e0] at V;cases V
  have cx:=(E.o.cell (p:=⟨bq,1,none⟩) d7).trans (d9 1 V);clear d9;have hx:=HP.o 1 V V;have n1:(1:Int)<(d.length:Int):=by omega
  have d6:(d[1]?).getD 0=d[1]:=by rw[Jf V];rfl
  rw[d6] at A;obtain⟨y,hy⟩:∃ y:Nat,d[1]=(y:Int):=⟨d[1].toNat,by omega⟩;rw[hy] at cx hx A;clear hy d6;obtain⟨pt,ct,rfl,j9,e4,e5⟩:=HT.o;unfold maxLen at e4
  rcases e5 with e0|⟨bt,rfl,M,U⟩
  ·rw[e0] at hn;simp at hn;omega
  have b6:y<T.length:=by omega
  obtain⟨c0,c1,c2,c3,c4,va,c5,pa,ca,rfl,-,-,-⟩:=U y b6;have c0:=(E.o.cell (p:=⟨bt,y*6,none⟩) M).trans c0;have c1:=(E.o.cell (p:=⟨bt,y*6+1,none⟩) M).trans c1;have c2:=(E.o.cell (p:=⟨bt,y*6+2,none⟩) M).trans c2;have c3:=(E.o.cell (p:=⟨bt,y*6+3,none⟩) M).trans c3;have c4:=(E.o.cell (p:=⟨bt,y*6+4,none⟩) M).trans c4;have c5:=(E.o.cell (p:=⟨bt,y*6+5,none⟩) M).trans c5;clear U;rw[RK b6] at A;generalize T[y]=u at c0 c1 c2 c3 c4 c5 A;have i2:(y:Int)<(T.length:Int):=by omega
  have i4:(0:Int)<=(y:Int):=by omega
  obtain⟨W9,rfl⟩:∃ W9,W9=wc:=⟨_,rfl⟩;have l1:w.heap.size+1<W9.heap.size:=b8.o.lt;have l2:w.heap.size<W9.heap.size:=by omega
  have l3:bq<W9.heap.size:=by omega
  have l4:bt<W9.heap.size:=by omega
  have d3:Hid (Bx ((W9.alloc (.cells #[.int .i64 u.op,.string (Oo u.sort),.string (Oo u.text),.int .i64 u.a,.int .i64 u.b,.slice pa u.kids.length ca] 57)).drew) W9.heap.size [.int .i64 u.op,.string (Oo u.sort),.string (Oo u.text),.int .i64 u.a,.int .i64 u.b,.slice pa u.kids.length ca]):=(Oi _ _ _).drew
  go_upto_region 53 with fail
  go_cut [13] (fun s13 wx=>s13=.pointer (some ⟨W9.heap.size,0,none⟩)/\Bx wx W9.heap.size [.int .i64 u.op,.string (Oo u.sort),.string (Oo u.text),.int .i64 u.a,.int .i64 u.b,.slice pa u.kids.length ca]/\Up W9 wx)
  case first=>
   go_region
   all_goals (go_wp2;go_meet;exact⟨rfl,d3.o,(Oy _ _).drew⟩)
  obtain⟨rfl,b9,b4⟩:=hcut;have a8:=E.up b4;have b3:=Hd (e7.o.bl b4);have c6:=b8.o.bl b8.o.lt b4;have x0:=b9.cell 0;have x2:=b9.cell 2;have t0:=c6.cell 0;have t1:=c6.cell 1;simp only[Jo,Jr] at x0 x2 t0 t1;clear b9 b4 c6 c0 c1 c2 c3 c4 c5 cx l1 l2 l3 l4 d3
  rcases U8 so [73,110,116] with⟨K,q0⟩|⟨K,q0⟩
  ·cases J:K1 Y Kn
   ·have a7:=Hd J;have G:Hid (Kc S num F T n ⟨21,so,O,a,b,d⟩=false):=by unfold Hid;rw[A.o,Jb (show so=Kn from K),J];rfl
    clear J K
    go_wp2_with fail
    refine (Kv _ Y ⟨#[73,110,116]⟩ _ b3.o).mono ?_;rw[show (⟨#[73,110,116]⟩:ByteArray).data.toList=Kn from rfl,a7.o];rintro e w6 ⟨rfl,rfl⟩
    go_wp2
    go_ret
    exact⟨Oz G.o.symm,a8.o⟩
   have a7:=Hd J
   rcases Em u.op 12 with⟨Z,q1⟩|⟨Z,q1⟩
   ·rcases U8 u.text [48] with⟨p2,q2⟩|⟨p2,q2⟩
    ·have G:Hid (Kc S num F T n ⟨21,so,O,a,b,d⟩=false):=by unfold Hid;rw[A.o,Jb (show so=Kn from K),J,Jb Z,Jg (fun h=>h p2)];rfl
     clear J K Z p2
     go_wp2_with fail
     refine (Kv _ Y ⟨#[73,110,116]⟩ _ b3.o).mono ?_;rw[show (⟨#[73,110,116]⟩:ByteArray).data.toList=Kn from rfl,a7.o];rintro e w6 ⟨rfl,rfl⟩
     go_wp2
     go_ret
     exact⟨Oz G.o.symm,a8.o⟩
    have G:Hid (Kc S num F T n ⟨21,so,O,a,b,d⟩=true):=by unfold Hid;rw[A.o,Jb (show so=Kn from K),J,Jb Z,Jb p2];rfl
    clear J K Z p2
    go_wp2_with fail
    refine (Kv _ Y ⟨#[73,110,116]⟩ _ b3.o).mono ?_;rw[show (⟨#[73,110,116]⟩:ByteArray).data.toList=Kn from rfl,a7.o];rintro e w6 ⟨rfl,rfl⟩
    go_wp2
    go_ret
    exact⟨Oz G.o.symm,a8.o⟩
   have G:Hid (Kc S num F T n ⟨21,so,O,a,b,d⟩=false):=by unfold Hid;rw[A.o,Jb (show so=Kn from K),J,Jg Z];rfl
   clear J K Z
   go_wp2_with fail
   refine (Kv _ Y ⟨#[73,110,116]⟩ _ b3.o).mono ?_;rw[show (⟨#[73,110,116]⟩:ByteArray).data.toList=Kn from rfl,a7.o];rintro e w6 ⟨rfl,rfl⟩
   go_wp2
   go_ret
   exact⟨Oz G.o.symm,a8.o⟩
  have G:Hid (Kc S num F T n ⟨21,so,O,a,b,d⟩=false):=by unfold Hid;rw[A.o,Jg (show so≠Kn from K)];rfl
  clear K
  go_wp2
  go_ret
  exact⟨Oz G.o.symm,a8.o⟩
 ·have A:Hid (Kc S num F T n ⟨22,so,O,a,b,d⟩=(decide (so=Kn)&&K1 Y Kn&&decide ((Ky T ((d[1]?).getD 0)).op=12)&&decide ((Ky T ((d[1]?).getD 0)).text≠[48]))):=by unfold Hid;rw[d0.o];rfl
  have j7:2<=d.length:=by have:=(Kw b7.o).1;simpa[Kh] using this
  have V:1<d.length:=by omega
  rcases HK.o with e0|⟨bq,rfl,d7,d9⟩
  ·rw[e0] at V;cases V
  have cx:=(E.o.cell (p:=⟨bq,1,none⟩) d7).trans (d9 1 V);clear d9;have hx:=HP.o 1 V V;have n1:(1:Int)<(d.length:Int):=by omega
  have d6:(d[1]?).getD 0=d[1]:=by rw[Jf V];rfl
  rw[d6] at A;obtain⟨y,hy⟩:∃ y:Nat,d[1]=(y:Int):=⟨d[1].toNat,by omega⟩;rw[hy] at cx hx A;clear hy d6;obtain⟨pt,ct,rfl,j9,e4,e5⟩:=HT.o;unfold maxLen at e4
  rcases e5 with e0|⟨bt,rfl,M,U⟩
  ·rw[e0] at hn;simp at hn;omega
  have b6:y<T.length:=by omega
  obtain⟨c0,c1,c2,c3,c4,va,c5,pa,ca,rfl,-,-,-⟩:=U y b6;have c0:=(E.o.cell (p:=⟨bt,y*6,none⟩) M).trans c0;have c1:=(E.o.cell (p:=⟨bt,y*6+1,none⟩) M).trans c1;have c2:=(E.o.cell (p:=⟨bt,y*6+2,none⟩) M).trans c2;have c3:=(E.o.cell (p:=⟨bt,y*6+3,none⟩) M).trans c3;have c4:=(E.o.cell (p:=⟨bt,y*6+4,none⟩) M).trans c4;have c5:=(E.o.cell (p:=⟨bt,y*6+5,none⟩) M).trans c5;clear U;rw[RK b6] at A;generalize T[y]=u at c0 c1 c2 c3 c4 c5 A;have i2:(y:Int)<(T.length:Int):=by omega
  have i4:(0:Int)<=(y:Int):=by omega
  obtain⟨W9,rfl⟩:∃ W9,W9=wc:=⟨_,rfl⟩;have l1:w.heap.size+1<W9.heap.size:=b8.o.lt;have l2:w.heap.size<W9.heap.size:=by omega
  have l3:bq<W9.heap.size:=by omega
  have l4:bt<W9.heap.size:=by omega
  have d3:Hid (Bx ((W9.alloc (.cells #[.int .i64 u.op,.string (Oo u.sort),.string (Oo u.text),.int .i64 u.a,.int .i64 u.b,.slice pa u.kids.length ca] 57)).drew) W9.heap.size [.int .i64 u.op,.string (Oo u.sort),.string (Oo u.text),.int .i64 u.a,.int .i64 u.b,.slice pa u.kids.length ca]):=(Oi _ _ _).drew
  go_upto_region 53 with fail
  go_cut [13] (fun s13 wx=>s13=.pointer (some ⟨W9.heap.size,0,none⟩)/\Bx wx W9.heap.size [.int .i64 u.op,.string (Oo u.sort),.string (Oo u.text),.int .i64 u.a,.int .i64 u.b,.slice pa u.kids.length ca]/\Up W9 wx)
  case first=>
   go_region
   all_goals (go_wp2;go_meet;exact⟨rfl,d3.o,(Oy _ _).drew⟩)
  obtain⟨rfl,b9,b4⟩:=hcut;have a8:=E.up b4;have b3:=Hd (e7.o.bl b4);have c6:=b8.o.bl b8.o.lt b4;have x0:=b9.cell 0;have x2:=b9.cell 2;have t0:=c6.cell 0;have t1:=c6.cell 1;simp only[Jo,Jr] at x0 x2 t0 t1;clear b9 b4 c6 c0 c1 c2 c3 c4 c5 cx l1 l2 l3 l4 d3
  rcases U8 so [73,110,116] with⟨K,q0⟩|⟨K,q0⟩
  ·cases J:K1 Y Kn
   ·have a7:=Hd J;have G:Hid (Kc S num F T n ⟨22,so,O,a,b,d⟩=false):=by unfold Hid;rw[A.o,Jb (show so=Kn from K),J];rfl
    clear J K
    go_wp2_with fail
    refine (Kv _ Y ⟨#[73,110,116]⟩ _ b3.o).mono ?_;rw[show (⟨#[73,110,116]⟩:ByteArray).data.toList=Kn from rfl,a7.o];rintro e w6 ⟨rfl,rfl⟩
    go_wp2
    go_ret
    exact⟨Oz G.o.symm,a8.o⟩
   have a7:=Hd J
   rcases Em u.op 12 with⟨Z,q1⟩|⟨Z,q1⟩
   ·rcases U8 u.text [48] with⟨p2,q2⟩|⟨p2,q2⟩
    ·have G:Hid (Kc S num F T n ⟨22,so,O,a,b,d⟩=false):=by unfold Hid;rw[A.o,Jb (show so=Kn from K),J,Jb Z,Jg (fun h=>h p2)];rfl
     clear J K Z p2
     go_wp2_with fail
     refine (Kv _ Y ⟨#[73,110,116]⟩ _ b3.o).mono ?_;rw[show (⟨#[73,110,116]⟩:ByteArray).data.toList=Kn from rfl,a7.o];rintro e w6 ⟨rfl,rfl⟩
     go_wp2
     go_ret
     exact⟨Oz G.o.symm,a8.o⟩
    have G:Hid (Kc S num F T n ⟨22,so,O,a,b,d⟩=true):=by unfold Hid;rw[A.o,Jb (show so=Kn from K),J,Jb Z,Jb p2];rfl
    clear J K Z p2
    go_wp2_with fail
    refine (Kv _ Y ⟨#[73,110,116]⟩ _ b3.o).mono ?_;rw[show (⟨#[73,110,116]⟩:ByteArray).data.toList=Kn from rfl,a7.o];rintro e w6 ⟨rfl,rfl⟩
    go_wp2
    go_ret
    exact⟨Oz G.o.symm,a8.o⟩
   have G:Hid (Kc S num F T n ⟨22,so,O,a,b,d⟩=false):=by unfold Hid;rw[A.o,Jb (show so=Kn from K),J,Jg Z];rfl
   clear J K Z
   go_wp2_with fail
   refine (Kv _ Y ⟨#[73,110,116]⟩ _ b3.o).mono ?_;rw[show (⟨#[73,110,116]⟩:ByteArray).data.toList=Kn from rfl,a7.o];rintro e w6 ⟨rfl,rfl⟩
   go_wp2
   go_ret
   exact⟨Oz G.o.symm,a8.o⟩
  have G:Hid (Kc S num F T n ⟨22,so,O,a,b,d⟩=false):=by unfold Hid;rw[A.o,Jg (show so≠Kn from K)];rfl
  clear K
  go_wp2
  go_ret
  exact⟨Oz G.o.symm,a8.o⟩
 ·have A:Hid (Kc S num F T n ⟨23,so,O,a,b,d⟩=(decide (so=Ki)&&decide (kS Y 0=Kn))):=by unfold Hid;rw[d0.o];rfl
  have V:1<=d.length:=by have:=(Kw b7.o).1;simpa[Kh] using this
  have p6:1<=Y.length:=by have:=d4.o;omega
  obtain⟨bs,rfl,U⟩:=Nn e7.o (by omega);have m9:=U 0 (by omega);have g9:=Ih (L:=Y) (i:=0) (by omega);have q3:(0:Int)<(d.length:Int):=by omega
  rw[g9] at A;generalize Y[0]=k0 at m9 A g9;clear U g9
  rcases U8 so [82,101,97,108] with⟨K,q0⟩|⟨K,q0⟩
  ·rcases U8 k0 [73,110,116] with⟨Z,q1⟩|⟨Z,q1⟩
   ·have G:Hid (Kc S num F T n ⟨23,so,O,a,b,d⟩=true):=by unfold Hid;rw[A.o,Jb (show so=Ki from K),Jb (show k0=Kn from Z)]<;>rfl
    clear K Z
    go_wp2
    go_ret
    exact⟨Oz G.o.symm,E.o⟩
   have G:Hid (Kc S num F T n ⟨23,so,O,a,b,d⟩=false):=by unfold Hid;rw[A.o,Jb (show so=Ki from K),Jg (show k0≠Kn from Z)]<;>rfl
   clear K Z
   go_wp2
   go_ret
   exact⟨Oz G.o.symm,E.o⟩
  have G:Hid (Kc S num F T n ⟨23,so,O,a,b,d⟩=false):=by unfold Hid;rw[A.o,Jg (show so≠Ki from K)]<;>rfl
  clear K
  go_wp2
  go_ret
  exact⟨Oz G.o.symm,E.o⟩
 have I:=Hd hdf;clear hdf;have z1:(o==1)=false:=by rw[Jc];have:=I.o;omega
 have z2:(o==2)=false:=by rw[Jc];have:=I.o;omega
 have z3:(o==3)=false:=by rw[Jc];have:=I.o;omega
 have z4:(o==4)=false:=by rw[Jc];have:=I.o;omega
 have z5:(o==5)=false:=by rw[Jc];have:=I.o;omega
 have z6:(o==6)=false:=by rw[Jc];have:=I.o;omega
 have z7:(o==7)=false:=by rw[Jc];have:=I.o;omega
 have z8:(o==8)=false:=by rw[Jc];have:=I.o;omega
 have z9:(o==9)=false:=by rw[Jc];have:=I.o;omega
 have q7:(o==10)=false:=by rw[Jc];have:=I.o;omega
 have q8:(o==11)=false:=by rw[Jc];have:=I.o;omega
 have q9:(o==12)=false:=by rw[Jc];have:=I.o;omega
 have r3:(o==13)=false:=by rw[Jc];have:=I.o;omega
 have r4:(o==14)=false:=by rw[Jc];have:=I.o;omega
 have r5:(o==15)=false:=by rw[Jc];have:=I.o;omega
 have r6:(o==16)=false:=by rw[Jc];have:=I.o;omega
 have r7:(o==17)=false:=by rw[Jc];have:=I.o;omega
 have r8:(o==18)=false:=by rw[Jc];have:=I.o;omega
 have r9:(o==19)=false:=by rw[Jc];have:=I.o;omega
 have z20:(o==20)=false:=by rw[Jc];have:=I.o;omega
 have z21:(o==21)=false:=by rw[Jc];have:=I.o;omega
 have z22:(o==22)=false:=by rw[Jc];have:=I.o;omega
 have s0:(o==23)=false:=by rw[Jc];have:=I.o;omega
 have A:Hid (Kc S num F T n ⟨o,so,O,a,b,d⟩=Oj (Ov (On S)) ⟨o,so,O,a,b,d⟩ Y):=by
  have h:=I.o;unfold Hid;rw[d0.o];unfold Nv;simp only;rw[if_neg (by omega),if_neg (by omega),if_neg (by omega),if_neg (by omega),if_neg (by omega),if_neg (by omega),if_neg (by omega),if_neg (by omega),if_neg (by omega),if_neg (by omega),if_neg (by omega)]
 generalize hB:Oj (Ov (On S)) ⟨o,so,O,a,b,d⟩ Y=B at A;have l7:=Hd hB;clear hB
 go_wp2_with fail
 refine (B5 vs vf vt S ⟨o,so,O,a,b,d⟩ _ _ Y _ (HS.o.bl E.o) e7.o hzs hzt (fun k hk=>?_) ?_ I.o).mono ?_
 ·have e:=g3.o;subst e;obtain⟨x,hx,rfl⟩:=Zm.1 hk;have h1:0<=x/\x<(n:Int):=by simpa using Ju.1 j0.o x hx
  have h2:Ky T x∈T:=by
   unfold Ky;rw[Jf (by omega)];exact Jw _
  exact HZ.o _ h2
 ·rw[d4.o];exact (Kw b7.o).1
 rw[l7.o];rintro e w6 ⟨rfl,j6⟩;have l6:=E.up j6;clear j6
 go_wp2
 go_ret
 exact⟨Oz A.o.symm,l6.o⟩
end Go.Proofs.YtipgjenolpofpaaGreatDoor
