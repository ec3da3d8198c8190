import Derived.Test.YtfkagjelljnpdaaGreatDoorP44
import Derived.Test.YtfkagjelljnpdaaGreatDoorP48
import Derived.HandedShaped
import Derived.Shelf.Vars
import Derived.Deep.Slices
import Derived.Stop.LaidErr
import Derived.Stop.Texts
set_option linter.all false
set_option maxRecDepth 100000
set_option maxHeartbeats 16000000
namespace Go.Proofs.YtfkagjelljnpdaaGreatDoor
open ChangeShapes WideShapes ChangeAt RowKit Proofs.Tryz
variable {W w:World}{cs:List Value}
theorem OH{v:Value}{L:List (Int×Bool)}(h:FactsAt w v L){i:Nat}(hi:i<L.length):∃b c,v=.slice (some ⟨b,0,none⟩) L.length c/\b<w.heap.size/\w.cell? ⟨b,i*2,none⟩=some (.int .i64 L[i].1)/\w.cell? ⟨b,i*2+1,none⟩=some (.bool L[i].2):=by
 obtain⟨p,c,rfl,-,-,q⟩:=h
 rcases q with rfl|⟨b,rfl,hb,j⟩
 ·exact absurd hi (Jz _)
 exact⟨b,c,rfl,hb,(j i hi).1,(j i hi).2⟩
theorem DX(a1 a2:Option Addr)(n1 cap1 n2 cap2:Nat)(w:World)(h1:Q.Gd w a1 n1 cap1)(h2:Q.Gd w a2 n2 cap2)(hv:Vars w) :
 Calls prog 3 #[.slice a1 n1 cap1,.slice a2 n2 cap2] w fun e w'=>e=.returned (.bool true)/\Up w w':=by
 have HV:=Hd hv;have H2:=Hd h2;have HD:=Hd (Sd a1 n1 cap1 w h1);clear hv h1 h2
 by_cases c1:1048576<n1
 ·have m6:(1048576:Int)<(n1:Int):=by omega
  go_in
  go_wp2
  go_ret
  exact⟨rfl,Ji _ _⟩
 by_cases c2:1048576<n2
 ·have m6:¬ (1048576:Int)<(n1:Int):=by omega
  have p9:(1048576:Int)<(n2:Int):=by omega
  go_in
  go_wp2
  go_ret
  exact⟨rfl,Ji _ _⟩
 have m6:¬ (1048576:Int)<(n1:Int):=by omega
 have p9:¬ (1048576:Int)<(n2:Int):=by omega
 go_in
 go_wp2_with fail
 refine HD.o.mono ?_;rintro e w1 ⟨us,uf,ut,v,S,F,T,L,rfl,hP,hF,hL,j1⟩;obtain⟨p1,h8,rfl,-,-,-⟩:=hP.at'.s;obtain⟨p2,i6,rfl,-,-,-⟩:=hP.at'.f;obtain⟨p3,i7,rfl,-,-,-⟩:=hP.at'.t;obtain⟨p4,c4,rfl,-,-,-⟩:=id hF;obtain⟨W2,n7⟩:∃W,w1.alloc (.cells #[.slice p1 S.length h8,.slice p2 F.length i6,.slice p3 T.length i7] 27)=W:=⟨_,rfl⟩;obtain⟨x2,-,b2⟩:=Ei n7;have E:Hid (Bx W2 w1.heap.size [.slice p1 S.length h8,.slice p2 F.length i6,.slice p3 T.length i7]):=⟨_,x2⟩;have J:=Hd (hP.up b2);have b8:=Hd (hF.bl b2);have R:Hid (Up w W2):=j1.trans (b2.mono j1.size);have l7:=Hd (HV.o.bl R.o);have e4:=Hd (fun W (h:Up W2 W)=>J.o.up h);have HL:=Hd hL;clear hP hF hL j1 x2 b2 HD;obtain⟨d0,d1,d2⟩:=E.o.c3
 go_upto_region 4 with fail
 clear n7
 go_wp2_with fail
 refine(Qn J.o.at' J.o.z J.o.ns l7.o b8.o).mono ?_;rintro e w3 ⟨hr,a8⟩;have d9:=Hd a8;have h4:=Hd (Lk (e4.o w3 a8).at' J.o.z J.o.ns (e4.o w3 a8).sh (b8.o.bl a8));have p0:=Hd (E.o.bl E.o.lt a8);clear a8 d0 d1 d2;obtain⟨d0,d1,d2⟩:=p0.o.c3
 rcases hr with⟨hn,rfl⟩|⟨hp,g1,L1,rfl,F2,o2,j4⟩
 ·have HN:=Hd hn;clear hn
  go_wp2_with fail
  refine h4.o.mono ?_;rintro e w4 ⟨hr,V⟩
  rcases hr with⟨-,rfl⟩|⟨hp,-⟩
  ·have e3:Hid (Up w w4):=R.o.trans ((d9.o.trans (V.mono d9.o.size)).mono R.o.size);clear V d0 d1 d2
   go_wp2_with fail
   refine(IX w4).mono ?_;rintro e w5 ⟨rfl,b0⟩;have b5:=e3.up b0;clear b0
   go_wp2
   go_ret
   exact⟨rfl,b5.o⟩
  exact absurd hp HN.o
 obtain⟨H1,n6,n0⟩:=Rz hp.1 J.o.z;have e6:=Hd hp;have h5:=Hd n6;have l2:=Hd n0;have c6:=Hd o2;have b9:=Hd j4;have l4:=Hd j4.1;clear hp n6 n0 o2 j4
 go_wp2_with fail
 refine h4.o.mono ?_;rintro e w4 ⟨hr,V⟩
 rcases hr with⟨hn,-⟩|⟨-,g2,L2,rfl,q8,o3,o0⟩
 ·exact absurd e6.o hn
 obtain rfl:L1=L2:=b9.o.eq o0;have e3:=d9.up V;have l8:=Hd (VM g1 g2 T.length L1 w4 l4.o (by omega) (c6.o.bl c6.o.lt V) o3);have c8:=Hd (c6.o.bl c6.o.lt V);clear V o3 o0 d0 d1 d2 q8 c6 h4
 go_wp2_with fail
 refine l8.o.mono ?_;rintro e w5 ⟨rfl,b0⟩;have b5:=e3.up b0;have d3:=Hd (c8.o.bl c8.o.lt b0);have g5:Hid (Up w w5):=R.o.trans (b5.o.mono R.o.size);clear b0 c8 e3 d9 l8
 by_cases n5:T.length=0
 ·have z0:((T.length:Int)==0)=true:=by rw[J2];omega
  clear n5
  go_wp2
  go_ret
  exact⟨rfl,g5.o⟩
 have z0:((T.length:Int)==0)=false:=by rw[Jc];omega
 clear n5;have D2:L.length<=1000:=HL.o
 go_upto_if 41 with fail
 go_cut [8] (fun s8 wx=>∃kk:Nat,s8=.int .i64 (kk:Nat)/\kk<=L.length/\Up w5 wx)
 case first=>
  by_cases i8:0<L.length
  ·have y0:decide ((0:Int)<(L.length:Int))=true:=Jb (by omega);have y1:decide (0<L.length)=true:=Jb i8;have y2:¬ (L.length:Int)=0:=by omega
   go_wp2_with fail
   refine(II a2 n2 cap2 w5 (H2.o.bl g5.o)).mono ?_;rintro e w6 ⟨⟨v,rfl,hv⟩,b1⟩;have G:=Hd b1;obtain⟨kk,j3,H0⟩:∃kk:Nat,(v:Int) % (L.length:Int)=(kk:Int)/\kk<L.length:=⟨v % L.length,by simp,Nat.mod_lt _ i8⟩;clear b1
   go_wp2
   go_meet
   exact⟨kk,by rw[j3],by omega,G.o⟩
  have y0:decide ((0:Int)<(L.length:Int))=false:=Jd (by omega);have y1:decide (0<L.length)=false:=Jd i8
  go_wp2
  go_meet
  exact⟨0,rfl,Jp _,Ji _ _⟩
 rename World=>w6
 obtain⟨kk,rfl,j3,b1⟩:=hcut;have G:=b5.up b1;have d4:=Hd (d3.o.bl d3.o.lt b1);have l9:=Hd (E.o.bl E.o.lt G.o);have b6:Hid (Up W2 w6.drew):=⟨G.o.os,G.o.tape,G.o.output,G.o.size,G.o.block⟩;have u9:kk<=c4:=by
  obtain⟨p,c,e,h1,-,-⟩:=b8.o;simp only[Value.slice.injEq]at e;omega
 have k9:=Hd (Qn (e4.o _ b6.o).at' J.o.z J.o.ns (l7.o.bl b6.o) ((b8.o.bl b6.o).take j3));clear b1 d3 b5;obtain⟨d0,d1,d2⟩:=l9.o.c3
 go_wp2_with fail
 refine Ph 6 rfl (S:=fun W=>W.cell? ⟨w1.heap.size,0,none⟩=some (.slice p1 S.length h8)/\W.cell? ⟨w1.heap.size,1,none⟩=some (.slice p2 F.length i6)/\W.cell? ⟨w1.heap.size,2,none⟩=some (.slice p3 T.length i7)) (by kernel_rfl) (⟨d0,d1,d2⟩) (fun hHeld=>?_)
 iterate 4 (refine tkf 5 52 (v:=?_) rfl rfl (by kernel_rfl) (fun _ _ _ h=>h) (.inl ⟨by rfl,?_⟩) (by assumption) ?_;rotate_left;(intro w j0;obtain⟨s0,s1,s2⟩:=j0;go_simp;(try with_reducible rfl));try simp only[Act.put,Ja,Je,Jf])
 refine wpAnyH_ready (rs:=[4]) (by kernel_rfl) (by simp) ?_;refine AllReadyH.cons rfl (fun K hK=>?_) AllReadyH.nil
 go_simp
 go_at_call 5
 refine k9.o.mono ?_;rintro e w7 ⟨hr,j2⟩
 rcases hr with⟨hn,-⟩|⟨-,g3,L3,rfl,q9,o4,o1⟩
 exact absurd ⟨e6.o.1,e6.o.2.take kk⟩ hn;have g9:=b6.up j2;have e7:=Hd (E.o.bl E.o.lt g9.o);have h7:=Hd o4;have d5:Hid (Bx w7 g1 (labV L1)):=(d4.o.drew).bl d4.o.drew.lt j2;have h3:=Hd o1;clear j2 o4 o1 q9
 go_wp2_with fail
 refine hK.out _ _ (e7.o.c3) (fun hHeld4=>?_);clear hK K
 try simp only[Act.put,Ja,Je,Jf]
 refine tk 5 9 (v:=?_) rfl rfl (by kernel_rfl) (fun _ _ _ h=>h) (.inl ⟨by rfl,?_⟩) (by assumption) ?_;rotate_left;(intro w j0;(try dsimp only at j0);go_simp;(try with_reducible rfl));try simp only[Act.put,Ja,Je,Jf];refine wpAnyH_done (by kernel_rfl) ?_ _;clear hHeld hHeld4 d0 d1 d2 k9 d4 b6 l9 G;have z3:=U4 (show(T.length:Int)=(T.length:Int)from rfl);have l5:Hid (L1.length=T.length/\L3.length=T.length):=⟨l4.o,h3.o.1⟩;have l3:=Hd (fun i (hi:i<T.length)=>b9.o.few h3.o hi)
 go_wp2
 go_loopw [10,59] (fun _ iv wr=>∃(i:Nat),i<=T.length/\iv=.int .i64 (i:Nat)/\Up w7 wr) (fun _ iv _=>T.length - (intOf iv).toNat)
 case atStart=>exact⟨0,Jp _,rfl,Ji _ _⟩
 rename World=>wr
 obtain⟨i,hi,rfl,d7⟩:=hrel;have a7:=Hd d7;have O:=Hd (d5.o.bl d5.o.lt d7);have g7:=Hd (h7.o.bl h7.o.lt d7);have z6:=Hd (e7.o.bl e7.o.lt d7);clear d7
 by_cases b4:i<T.length
 ·have y1:decide ((i:Int)<(T.length:Int))=true:=Jb (by omega);have y2:decide (i<T.length)=true:=Jb b4;obtain⟨x,hx⟩:=O2 (labA L1 i);obtain⟨y,hy⟩:=O2 (labA L3 i);have H4:x<=i:=by rw[<-hx];exact b9.o.le b4
  have H7:y<=i:=by rw[<-hy];exact h3.o.le b4
  have m7:labA L1 x=x:=by rw[<-hx];exact b9.o.idem b4
  have m8:labA L1 y=x:=by rw[<-hy,<-hx];exact l3.o i b4
  have r1:=O.o.cell i;have r2:=O.o.cell x;have r3:=g7.o.cell i;have r4:=O.o.cell y;rw[Ks (by have:=l5.o;omega)]at r1 r2 r3 r4;rw[hx]at r1;rw[m7]at r2;rw[hy]at r3;rw[m8]at r4;have q1:decide ((i:Int)<(x:Int))=false:=Jd (by omega);have q2:decide ((i:Int)<(y:Int))=false:=Jd (by omega);have M2:decide (i<x)=false:=Jd (by omega);have M4:decide (i<y)=false:=Jd (by omega);have q3:=U4 (show(x:Int)=(x:Int)from rfl);have q4:decide (x<T.length)=true:=Jb (by omega);have q5:decide (y<T.length)=true:=Jb (by omega);have q6:x<T.length:=by omega
  have q7:y<T.length:=by omega
  clear hx hy m7 m8
  go_wp2
  go_quiet (fail)
  go_wp2
  go_roundw
  case rel=>exact⟨i+1,by omega,by go_num,⟨a7.o.os,a7.o.tape,a7.o.output,a7.o.size,a7.o.block⟩⟩
  simp[intOf];omega
 have y1:decide ((i:Int)<(T.length:Int))=false:=Jd (by omega);have y2:decide (i<T.length)=false:=Jd b4;have o7:Hid (Up W2 wr):=g9.o.trans (a7.o.mono g9.o.size);clear g7 d5 h7 e7 l3
 go_wp2
 go_loopw [12,13,107] (fun _ _ jv w'=>∃(j:Nat),j<=L.length/\jv=.int .i64 (j:Nat)/\Up wr w') (fun _ _ jv _=>L.length - (intOf jv).toNat)
 case atStart=>exact⟨0,Jp _,rfl,Ji _ _⟩
 rename World=>ws
 obtain⟨j,hj,rfl,g0⟩:=hrel;have o9:=Hd g0;have Z:=o7.up g0
 by_cases d8:j<L.length
 ·have y3:decide ((j:Int)<(L.length:Int))=true:=Jb (by omega);have y4:decide (j<L.length)=true:=Jb d8;obtain⟨fb,fc,e,D9,f0,f1⟩:=OH (b8.o.bl Z.o) d8;simp only[Value.slice.injEq]at e;obtain⟨rfl,-,rfl⟩:=e;have j5:=e6.o.2.2 _ (Jj d8);have g8:=Jj d8;obtain⟨x,hx⟩:∃x:Nat,L[j].1=(x:Int):=⟨L[j].1.toNat,by have:=j5.1;omega⟩;obtain⟨on,j6⟩:∃b,L[j].2=b:=⟨_,rfl⟩;have Y:x<T.length:=by have:=j5.2.1;omega
  have b7:Hid (on=true->(tmAt T (x:Nat)).op=9->labA L1 (O9 (tmAt T (x:Nat)) 0)=labA L1 (O9 (tmAt T (x:Nat)) 1)):=fun h1 h2=>by
   have r5:=l2.o x Y h2;exact b9.o.one (Kr h5.o Y (by omega)) (Kr h5.o Y (by omega)) (Ky.base ⟨L[j],g8,.inl ⟨by rw[j6];exact h1,by rw[hx];exact h2,by rw[hx],by rw[hx]⟩⟩)
  rw[hx]at f0;rw[j6]at f1;obtain⟨bt,ct,pk,ck,e,b3,t0,t1,t2,t3,t4,t5,hk⟩:=Uo (e4.o ws Z.o).at'.t Y;simp only[Value.slice.injEq]at e;obtain⟨rfl,-,rfl⟩:=e;have h0:=Hd (fun h=>l2.o x Y h);have e5:=Hd (fun i hi=>Hl (i:=i) hk (h5.o.kids x Y) hi);obtain⟨t,ht⟩:=O2 (tmAt T (x:Nat));have HT:=Hd ht;rw[ht]at t0 t1 t2 t3 t4 t5 h0 e5 b7;have d6:=Hd (O.o.bl O.o.lt g0);have l6:Hid (∀k,k<T.length->(labV L1)[k]? = some (.int .i64 ((labA L1 k:Nat):Int))):=fun k hk=>Ks (by rw[l5.o.1];exact hk);obtain⟨d0,d1,d2⟩:=(E.o.bl E.o.lt Z.o).c3;clear j5 g8 hx j6 hk ht g0
  go_upto_region 24 with fail
  obtain⟨wa,j8⟩:∃W,ws.alloc (.cells #[.int .i64 (x:Nat),.bool on] 36)=W:=⟨_,rfl⟩;obtain⟨xa,-,ba⟩:=Ei j8;rw[j8];have XF:Hid (Bx wa ws.heap.size [.int .i64 (x:Nat),.bool on]):=⟨_,xa⟩;have p5:=Hd ((E.o.bl E.o.lt Z.o).bl (E.o.bl E.o.lt Z.o).lt ba);obtain⟨e0,e1,e2⟩:=p5.o.c3;have m5:=XF.o.cell 0;simp only[Jr]at m5;have s3:=(ba.cell (p:=⟨bt,x*6,none⟩) b3).trans t0;have s4:=(ba.cell (p:=⟨bt,x*6+1,none⟩) b3).trans t1;have s5:=(ba.cell (p:=⟨bt,x*6+2,none⟩) b3).trans t2;have s6:=(ba.cell (p:=⟨bt,x*6+3,none⟩) b3).trans t3;have s7:=(ba.cell (p:=⟨bt,x*6+4,none⟩) b3).trans t4;have s9:=(ba.cell (p:=⟨bt,x*6+5,none⟩) b3).trans t5;have y5:decide (x<T.length)=true:=Jb Y;have k8:=Hd ba;clear j8 xa ba d0 d1 d2 t0 t1 t2 t3 t4 t5 f0 f1
  go_upto_region 25 with fail
  obtain⟨wb,j9⟩:∃W,wa.alloc (.cells #[.int .i64 t.op,.string (Oo t.sort),.string (Oo t.text),.int .i64 t.a,.int .i64 t.b,.slice pk t.kids.length ck] 38)=W:=⟨_,rfl⟩;obtain⟨xb,-,bb⟩:=Ei j9;rw[j9];have XT:Bx wb wa.heap.size [.int .i64 t.op,.string (Oo t.sort),.string (Oo t.text),.int .i64 t.a,.int .i64 t.b,.slice pk t.kids.length ck]:=⟨_,xb⟩;have b2:Up ws wb:=k8.o.trans (bb.mono k8.o.size);have q:=o9.up b2;have v0:=XT.cell 0;have v5:=XT.cell 5;have u1:=(XF.o.bl XF.o.lt bb).cell 1;simp only[Jy,Jr]at v0 v5 u1;have g6:=Hd (d6.o.bl d6.o.lt b2);have g4:=Hd b2;clear j9 xb bb b2 XT e0 e1 e2 m5 s3 s4 s5 s6 s7 s9
  cases on with
  | false=>
    clear b7
    go_wp2
    go_quiet (fail)
    go_wp2
    go_roundw
    case rel=>exact⟨j+1,by omega,by go_num,⟨q.o.os,q.o.tape,q.o.output,q.o.size,q.o.block⟩⟩
    simp[intOf];omega
  | true=>
    by_cases h9:t.op=9
    ·have y6:(t.op==9)=true:=by rw[J2];exact h9
     have r5:2<=t.kids.length:=h0.o h9;have n9:=b7.o rfl h9;obtain⟨bk,rfl,n8,k0,l0⟩:=e5.o 0 (by omega);obtain⟨z8,e,-,k1,l1⟩:=e5.o 1 (by omega);simp only[Option.some.injEq,Addr.mk.injEq,and_true]at e;subst e;have K6:=(g4.o.cell (p:=⟨bk,0,none⟩) n8).trans k0;have M1:=(g4.o.cell (p:=⟨bk,1,none⟩) n8).trans k1;have r0:=g6.o.cell (O9 t 0);have r1:=g6.o.cell (O9 t 1);rw[l6.o _ l0]at r0;rw[l6.o _ l1,<-n9]at r1;generalize labA L1 (O9 t 0)=x0 at r0 r1;generalize O9 t 0=i0 at *;generalize O9 t 1=i1 at *;have q3:=U4 (show(x0:Int)=(x0:Int)from rfl);have q4:decide (i0<T.length)=true:=Jb l0;have q5:decide (i1<T.length)=true:=Jb l1;have q6:0<t.kids.length:=by omega
     have q7:1<t.kids.length:=by omega
     clear n9 k0 k1 b7 h0 e5 d6
     go_wp2
     go_quiet (fail)
     go_wp2
     go_roundw
     case rel=>exact⟨j+1,by omega,by go_num,⟨q.o.os,q.o.tape,q.o.output,q.o.size,q.o.block⟩⟩
     simp[intOf];omega
    have y6:(t.op==9)=false:=by rw[Jc];exact h9
    clear h9 b7
    go_wp2
    go_quiet (fail)
    go_wp2
    go_roundw
    case rel=>exact⟨j+1,by omega,by go_num,⟨q.o.os,q.o.tape,q.o.output,q.o.size,q.o.block⟩⟩
    simp[intOf];omega
 have y3:decide ((j:Int)<(L.length:Int))=false:=Jd (by omega);have y4:decide (j<L.length)=false:=Jd d8;have o8:Hid (Up w ws):=R.o.trans (Z.o.mono R.o.size)
 go_wp2
 go_ret
 exact⟨rfl,o8.o⟩
theorem LJ:prog.globalNamed "strconv.ErrSyntax" = some 4:=by kernel_rfl
theorem LW:prog.globalNamed "strconv.ErrRange" = some 5:=by kernel_rfl
theorem BN:(prog.globals[4]?).map (·.type)=some 222:=by kernel_rfl
theorem BE:(prog.globals[5]?).map (·.type)=some 222:=by kernel_rfl
theorem RQ : "*" ++ "errors.errorString" = "*errors.errorString" := by decide
theorem CJ (u:TypeId)(h:prog.typeName? 3 u=some "*errors.errorString"):u=294:=
 typeName_ptr_named (nm:= "errors.errorString") (by rw[RQ];kernel_rfl) (by kernel_rfl) (by decide) u (by rw[RQ];exact h)
theorem OG {L:List (String×DataW Unit)}(h:laidMet prog (("strconv.ErrRange",Rows.laid_strconv_ErrRange)::("strconv.ErrSyntax",Rows.laid_strconv_ErrSyntax)::L) W):EV W:=by
 obtain⟨a0,s0,j,-,-,-⟩:=laid_sentinel h LW BE underlying222 CJ underlying294 underlying296 rfl rfl underlying9 (by kernel_rfl) (by kernel_rfl);obtain⟨E,s1,q,-,-,-⟩:=laid_sentinel h.tail LJ BN underlying222 CJ underlying294 underlying296 rfl rfl underlying9 (by kernel_rfl) (by kernel_rfl);have c0:=Vp LW j 0;have c1:=Vp LJ q 0;exact⟨⟨_,by simpa using c1,.inr ⟨_,_,rfl⟩⟩,⟨_,by simpa using c0,.inr ⟨_,_,rfl⟩⟩⟩
def GR{H:Type}(r:Rule):DataW H:=.agg [.lit (.int .u8 (r.last:Nat)),.lit (.int .u8 (r.least:Nat)),.lit (.int .u8 (r.most:Nat)),.lit (.int .u8 (r.sort:Nat)),.agg [.lit (.int .u8 (r.r0:Nat)),.lit (.int .u8 (r.r1:Nat)),.lit (.int .u8 (r.r2:Nat))]]
theorem ZT:(Rows.laid_loop_example_g00007_impl_termRules:DataW Unit)=.agg (rules.map GR):=rfl
theorem FX:prog.globalNamed "loop.example/g00007/impl.termRules" = some 0:=by kernel_rfl
theorem FT:(prog.globals[0]?).map (·.type)=some 189:=by kernel_rfl
theorem RS(h:cs.length=3):∃v0 v1 v2,cs=[v0,v1,v2]:=by
 match cs,h with
 | [v0,v1,v2],_=>exact⟨v0,v1,v2,rfl⟩
theorem RU(h:cs.length=7):∃v0 v1 v2 v3 v4 v5 v6,cs=[v0,v1,v2,v3,v4,v5,v6]:=by
 match cs,h with
 | [v0,v1,v2,v3,v4,v5,v6],_=>exact⟨v0,v1,v2,v3,v4,v5,v6,rfl⟩
theorem Bn{H:Type}{enc:TypeId×Value->H}{base:Nat}{spare:Nat->Bool}{held:Bool}{fuel:Nat}{a b c:Int}{x:DataW H×List MemPlace}
 (h:DataW.trod enc prog w base spare held fuel 175 cs=some x) (hx:x.1=.agg [.lit (.int .u8 a),.lit (.int .u8 b),.lit (.int .u8 c)]):cs=[.int .u8 a,.int .u8 b,.int .u8 c]:=by
 obtain⟨xs,m,_,rfl,hl,hn,j⟩:=DataW.trod_array underlying175 h;have c1:prog.cellsOf 5=1:=by kernel_rfl
 have c3:prog.cellsOf 175=3:=by kernel_rfl
 rw[c3]at hl;obtain⟨v0,v1,v2,rfl⟩:=RS hl;have q:=j 0 (by decide);have E:=j 1 (by decide);have G:=j 2 (by decide);rw[c1]at q E G
 match xs,hn with
 | [y0,y1,y2],_=>
   obtain⟨V,i0,K,_⟩:=DataW.trod_int underlying5 (show DataW.trod _ prog w base spare held m 5 _=some y0 from q);obtain⟨Y,J,O,_⟩:=DataW.trod_int underlying5 (show DataW.trod _ prog w base spare held m 5 _=some y1 from E);obtain⟨Z,i2,R,_⟩:=DataW.trod_int underlying5 (show DataW.trod _ prog w base spare held m 5 _=some y2 from G);subst K O R;simp only[Za,Zq,DataW.agg.injEq,List.cons.injEq,DataW.lit.injEq,Lit.int.injEq,true_and,and_true]at hx;obtain⟨rfl,rfl,rfl⟩:=hx;simp at i0 J i2;rw[i0,J,i2]
theorem Au{H:Type}{enc:TypeId×Value->H}{base:Nat}{spare:Nat->Bool}{held:Bool}{fuel:Nat}{r:Rule}{x:DataW H×List MemPlace}
 (h:DataW.trod enc prog w base spare held fuel 177 cs=some x) (hx:x.1=GR r):cs=[.int .u8 (r.last:Nat),.int .u8 (r.least:Nat),.int .u8 (r.most:Nat),.int .u8 (r.sort:Nat),.int .u8 (r.r0:Nat),.int .u8 (r.r1:Nat),.int .u8 (r.r2:Nat)]:=by
 obtain⟨xs,k,_,rfl,j,J,q⟩:=DataW.trod_struct underlying177 h;have c1:prog.cellsOf 5=1:=by kernel_rfl
 have c3:prog.cellsOf 175=3:=by kernel_rfl
 have c7:prog.cellsOf 177=7:=by kernel_rfl
 rw[c7]at j;obtain⟨v0,v1,v2,v3,v4,v5,v6,rfl⟩:=RU j;have E:xs.length=5:=J;have K:DataW.trod enc prog w base spare held k 5 (List.take (prog.cellsOf 5) (List.drop 0 [v0,v1,v2,v3,v4,v5,v6]))=xs[0]? := q 0 _ rfl;have O:DataW.trod enc prog w base spare held k 5 (List.take (prog.cellsOf 5) (List.drop 1 [v0,v1,v2,v3,v4,v5,v6]))=xs[1]? := q 1 _ rfl;have f2:DataW.trod enc prog w base spare held k 5 (List.take (prog.cellsOf 5) (List.drop 2 [v0,v1,v2,v3,v4,v5,v6]))=xs[2]? := q 2 _ rfl;have f3:DataW.trod enc prog w base spare held k 5 (List.take (prog.cellsOf 5) (List.drop 3 [v0,v1,v2,v3,v4,v5,v6]))=xs[3]? := q 3 _ rfl;have f4:DataW.trod enc prog w base spare held k 175 (List.take (prog.cellsOf 175) (List.drop 4 [v0,v1,v2,v3,v4,v5,v6]))=xs[4]? := q 4 _ rfl;rw[c1]at K O f2 f3;rw[c3]at f4
 match xs,E with
 | [y0,y1,y2,y3,y4],_=>
   obtain⟨n0,i0,Y,_⟩:=DataW.trod_int underlying5 (show DataW.trod _ prog w base spare held k 5 _=some y0 from K);obtain⟨n1,R,Z,_⟩:=DataW.trod_int underlying5 (show DataW.trod _ prog w base spare held k 5 _=some y1 from O);obtain⟨n2,i2,j2,_⟩:=DataW.trod_int underlying5 (show DataW.trod _ prog w base spare held k 5 _=some y2 from f2);obtain⟨n3,i3,j3,_⟩:=DataW.trod_int underlying5 (show DataW.trod _ prog w base spare held k 5 _=some y3 from f3);subst Y Z j2 j3;simp only[GR,Za,Zq,DataW.agg.injEq,List.cons.injEq,DataW.lit.injEq,Lit.int.injEq,true_and,and_true]at hx;obtain⟨rfl,rfl,rfl,rfl,V⟩:=hx;have G:=Bn (show DataW.trod _ prog w base spare held k 175 _=some y4 from f4) V;simp at i0 R i2 i3 G;obtain⟨G,p5,p6⟩:=G;rw[i0,R,i2,i3,G,p5,p6]
theorem ZL {L:List (String×DataW Unit)}(h:laidMet prog (("loop.example/g00007/impl.termRules",Rows.laid_loop_example_g00007_impl_termRules)::L) W):RT W:=by
 obtain⟨ps,⟨g0,t0,G,f0,p0,q0,E,O,R,J,_,_⟩,_⟩:=h;obtain rfl:=Option.some.inj (FX.symm.trans E);obtain rfl:=Option.some.inj (FT.symm.trans O);have q:=Vp E R;obtain⟨xs,m,_,hx,hl,hn,K⟩:=DataW.trod_array underlying189 J;have c7:prog.cellsOf 177=7:=by kernel_rfl
 rw[ZT]at hx;have hm:rules.map GR=xs.map (·.1):=DataW.agg.inj (Prod.mk.inj hx).1;have Z:rules.length=25:=rfl;intro i hi;have e:=K i (by omega);rw[c7,Jg (by omega)]at e;have V:xs[i].1=GR rules[i]:=by
  have Y:(rules.map (GR (H:=Unit)))[i]? = (xs.map (·.1))[i]? := by rw[hm]
  rw[Yt,Yt,Jg hi,Jg (by omega)]at Y
  simpa using Y.symm
 have p:=Au e V;have j:∀d v,d<7->(List.take 7 (List.drop (i*7) G.toList))[d]? = some v->W.cell? ⟨0,i*7+d,none⟩=some v:=fun d v hd hv=>by
  rw[List.getElem?_take_of_lt hd,List.getElem?_drop]at hv;rw[q (i*7+d)]
  simpa using hv
 rw[p]at j;exact⟨j 0 _ (by decide) rfl,j 1 _ (by decide) rfl,j 2 _ (by decide) rfl,j 3 _ (by decide) rfl,j 4 _ (by decide) rfl,j 5 _ (by decide) rfl,j 6 _ (by decide) rfl⟩
theorem Qb{H:Type}{enc:TypeId×Value->H}{a:Assume}{C:Checked}{os:Os}{f:FuncId}{fn:Func}{s:ChangeSpec}{conds:List PathCond}{apart fresh handsOn again:Bool}{X:World->Array Value->Prop}
 (hX:∀(w w':World) (args:Array Value),w.heap=w'.heap->X w args->X w' args)
 (own:ownKnob C.prog.godebug=none) (started:os.Started) (noInit:C.prog.inits.idxOf? f=none) (hfn:C.prog.funcs[f]? = some fn)
 (witness:∃(w:World) (tape:Tape) (i:Input),w.os=os/\(w.forCall tape i).Shaped C.prog/\i.vars=[]/\Input.okWide C.prog (w.forCall tape i) .any w.heap.size f i /\
   ((s.pre enc C.prog fn conds apart (w.forCall tape i).memory i.args/\X (w.forCall tape i).memory i.args)/\sizedMet enc C.prog fn (OpenSpec.ofChange s) apart (w.forCall tape i).memory i.args)/\a.holds C.prog (lone (Frame.enter C.prog f i.args .normal) [] (w.forCall tape i)))
 (contract:∀(W:World) (base:Nat) (args:Array Value) (ds gs:List (DataW H)) (before:List MemPlace),
   (∀(j:Nat) t v,fn.params[j]? = some t->args[j]? = some v->Value.okWide C.prog W .any base t v) ->
   DataW.Whole enc C.prog fn.params.toList s.vars apart W args.toList ds gs before ->
   conds.all (PathCond.test C.prog ⟨fn.params.toList,ds,s.plain.varTypes C.prog,gs⟩)=true ->
   (DataW.weightsEach C.prog (fn.params.toList++s.plain.varTypes C.prog) (ds++gs)).all (·<=reachBytes)=true->X W args->W.ShapedOpen C.prog ->
   a.holds C.prog (lone (Frame.enter C.prog f args .normal) [] W) ->
   Calls C.prog f args W fun e W'=>∃v,e=.returned v/\s.post enc C.prog fn apart fresh handsOn again W args v W') :
 ReturnsInHanded a C os f .any (fun w args=>(s.pre enc C.prog fn conds apart w args/\X w args)/\sizedMet enc C.prog fn (OpenSpec.ofChange s) apart w args) (s.post enc C.prog fn apart fresh handsOn again):=by
 refine returnsInHanded_of_calls own started noInit witness ?_;intro w tape i _ R _ O G q;obtain⟨_,_,_,K,E,_,_,_,_,J⟩:=O;obtain rfl:K=fn:=Option.some.inj (E.symm.trans hfn);obtain⟨⟨⟨ds,gs,before,V,Y⟩,hx⟩,Z⟩:=G;refine(contract (w.forCall tape i) w.heap.size i.args ds gs before J (DataW.Whole.of_heap (w':=w.forCall tape i) (by rfl) V) Y (Z.weights V) (hX _ _ _ (by rfl) hx) R q).mono fun e W' h=>?_;obtain⟨v,rfl,hp⟩:=h;exact ChangeSpec.post_blind hp
theorem ZO(h:w.ShapedOpen prog):∃m,w.cell? ⟨1,0,none⟩=some (.int .i64 m):=
 cell_of_shapedOpen_int (t:=3) (zero:=#[.int .i64 0]) h (by decide +kernel) (by kernel_rfl) rfl (by kernel_rfl) (by kernel_rfl) underlying3
def CW(P:Program)(n:String):Bool:=match P.globalNamed n with
 | none=>false
 | some g=>match (P.globals[g]?).map (·.type)with
   | none=>false
   | some t=>P.readableRec t&&decide (t<P.types.size)
theorem X4{H:Type}{enc:TypeId×Value->H}{P:Program}{W W':World}(hl:laidOutB P=true)(hb:Up W W'):∀ {ns:List String} {gs:List (DataW H)} {ps:List MemPlace},ns.all (CW P)=true->DataW.TrodVars enc P W (fun _=>true) ns gs ps->DataW.TrodVars enc P W' (fun b=>decide (b<W.heap.size)) ns gs ps
 | [],gs,ps,_,h=>by
   cases gs with
   | nil=>exact h
   | cons d ds=>simp[DataW.TrodVars]at h
 | n::ns,gs,ps,hok,h=>by
   cases gs with
   | nil=>simp[DataW.TrodVars]at h
   | cons d ds=>
     simp only[List.all_cons,Jw]at hok
     obtain⟨g,t,cs,j,p,q,J,R,V,hd,Z,e⟩:=h
     have K:g<W.heap.size:=by
      have E:=V
      simp only[World.var?,J,Option.bind_some]at E
      cases hh:W.heap[g]? with
      | none=>rw[hh]at E;simp at E
      | some o=>exact(Jo.1 hh).1
     have G:=hok.1
     unfold CW at G
     rw[J]at G
     simp only[R,Jw,J1]at G
     have O:∀x∈p,x.block<W.heap.size:=DataW.trod_lt j _ _ _ hd
     obtain⟨Y,hq⟩:=Below.trod hl G.1 G.2 (v:=.agg cs) (⟨j,by simpa[Value.cells]using hd⟩:DataW.Trod enc P W 0 (fun _=>true) true t (.agg cs) d p) hb O
     exact⟨g,t,cs,Y,p,q,J,R,var?_below hb J K V,by simpa[Value.cells]using hq,X4 hl hb hok.2 Z,e⟩
theorem MP{H:Type}{enc:TypeId×Value->H}{P:Program}{spare:Nat->Bool}{n0 n1 n2 n3:String}{gs:List (DataW H)}{ps:List MemPlace}(h:DataW.TrodVars enc P w spare [n0,n1,n2,n3] gs ps):∃a b c d,gs=[a,b,c,d]:=by
 cases gs with
 | nil=>exact absurd h (by simp[DataW.TrodVars])
 | cons a g1=>
   obtain⟨_,_,_,_,_,_,_,_,_,_,h,_⟩:=h
   cases g1 with
   | nil=>exact absurd h (by simp[DataW.TrodVars])
   | cons b g2=>
     obtain⟨_,_,_,_,_,_,_,_,_,_,h,_⟩:=h
     cases g2 with
     | nil=>exact absurd h (by simp[DataW.TrodVars])
     | cons c g3=>
       obtain⟨_,_,_,_,_,_,_,_,_,_,h,_⟩:=h
       cases g3 with
       | nil=>exact absurd h (by simp[DataW.TrodVars])
       | cons d g4=>
         obtain⟨_,_,_,_,_,_,_,_,_,_,h,_⟩:=h
         cases g4 with
         | nil=>exact⟨a,b,c,d,rfl⟩
         | cons e g5=>exact absurd h (by simp[DataW.TrodVars])
theorem CD {x0 x1 x2 x3:String×DataW Unit}{L:List (String×DataW Unit)}(h:laidMet prog (x0::x1::x2::x3::("strconv.ErrRange",Rows.laid_strconv_ErrRange)::("strconv.ErrSyntax",Rows.laid_strconv_ErrSyntax)::("loop.example/g00007/impl.limbTens",Rows.laid_loop_example_g00007_impl_limbTens)::("loop.example/g00007/impl.signPairs",Rows.laid_loop_example_g00007_impl_signPairs)::("loop.example/g00007/impl.noSteps",Rows.laid_loop_example_g00007_impl_noSteps)::("loop.example/g00007/impl.termRules",Rows.laid_loop_example_g00007_impl_termRules)::L) W)(hm:∃m,W.cell? ⟨1,0,none⟩=some (.int .i64 m)):Vars W:=by
 have j:=h.tail.tail.tail.tail;exact⟨OG j,ZL j.tail.tail.tail.tail.tail,hm,Q.VK j.tail.tail.tail,Q.ZE j.tail.tail.tail.tail,Q.YW j.tail⟩
theorem Sz{H:Type}{enc:TypeId×Value->H}{a0:Option Addr}{len0 cap0:Nat}{d:DataW H}{p:List MemPlace}(h0:DataW.Trod enc prog W 0 (fun _=>true) true 22 (.slice a0 len0 cap0) d p):Q.Gd W a0 len0 cap0:=by
 obtain⟨R,Y⟩:=h0
 rcases open_ints underlying22 underlying5 (by kernel_rfl) Y with⟨h,_⟩|⟨x,l,c,q,h,_,hl,hm,Z,_,j,O⟩
 ·simp[Value.cells]at h;obtain⟨rfl,rfl,rfl⟩:=h;exact⟨leR,Jp _,fun i hi=>absurd hi (Jz _)⟩
 simp[Value.cells]at h;obtain⟨rfl,rfl,rfl⟩:=h;have a1:q.length=cap0:=by simpa using Z
 refine⟨hl,hm,fun i hi=>?_⟩;obtain⟨b,J,rfl,V⟩:=Go.ints_at j (by omega);have E:=V i (by omega);have G:q.getD i 0∈q:=by
  rw[J6,Jg (by omega)];exact Jj _
 have K:=bounds_u8 (O _ G);refine⟨b,J,(q.getD i 0).toNat,rfl,J3 W ⟨b,J+i,none⟩ E,by omega,?_⟩;rw[E];have:((q.getD i 0).toNat:Int)=q.getD i 0:=Int.toNat_of_nonneg K.1;rw[this]
end Go.Proofs.YtfkagjelljnpdaaGreatDoor
