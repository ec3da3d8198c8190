import Derived.Test.YtphhhciffpkojaaGreatDoorP00
import Derived.Test.YtphhhciffpkojaaGreatDoorE1
set_option maxRecDepth 100000
set_option maxHeartbeats 4000000
set_option linter.all false
namespace Go.Proofs.YtphhhciffpkojaaGreatDoor
open ChangeShapes WideShapes ChangeAt RowKit Proofs.Tryz
variable {T:List Tm}
theorem TH {w:World}{v:Value}(h:K9 w v T){i:Nat}(hi:i<T.length):∃ bt c pk ck,v=.slice (some ⟨bt,0,none⟩) T.length c/\w.cell? ⟨bt,i*6,none⟩=some (.int .i64 (Ke T i).op)/\w.cell? ⟨bt,i*6+1,none⟩=some (.string (Oo (Ke T i).sort))/\w.cell? ⟨bt,i*6+2,none⟩=some (.string (Oo (Ke T i).text))/\w.cell? ⟨bt,i*6+3,none⟩=some (.int .i64 (Ke T i).a)/\w.cell? ⟨bt,i*6+4,none⟩=some (.int .i64 (Ke T i).b)/\w.cell? ⟨bt,i*6+5,none⟩=some (.slice pk (Ke T i).kids.length ck)/\Kg w (.slice pk (Ke T i).kids.length ck) (Ke T i).kids:=by
 have e:Ke T i=T[i]:=by unfold Ke;rw[Int.toNat_natCast,Jd hi];rfl
 rw[e];obtain⟨p,c,rfl,-,-,h3⟩:=h
 rcases h3 with h3|⟨bt,rfl,-,h4⟩
 ·rw[h3] at hi;exact absurd hi (J2 _)
 obtain⟨d,j,k2,k3,k4,E,k5,k6⟩:=h4 i hi;obtain⟨pk,ck,rfl,q⟩:=id k6;exact⟨bt,c,pk,ck,rfl,d,j,k2,k3,k4,k5,k6⟩
theorem TS {B b:Nat}{vs vf vt:Value}{wa:World}(hwa:wa.heap.size=B)(hT:K9 wa vt T)(hTl:T.length<=3000)(hO:OW wa)(hok:TmsOk T):∀ (m id:Nat),id<m->id<T.length->∀ l W,Wx B b vs vf vt l W->Below B wa W->l.length<=1000000->Calls prog 70 #[.pointer (some ⟨b,0,none⟩),.int .i64 (id:Nat)] W (JM B b vs vf vt T id l W):=by
 intro m
 induction m with
 | zero=>exact fun id h=>absurd h (J2 _)
 | succ m ih=>
   intro id k9 d l W h hW hl;have g5:Hid (∀ id',id'<id->∀ l W,Wx B b vs vf vt l W->Below B wa W->l.length<=1000000->Calls prog 70 #[.pointer (some ⟨b,0,none⟩),.int .i64 (id':Nat)] W (JM B b vs vf vt T id' l W)):=fun id' h1=>ih id' (by omega) (by omega);obtain⟨p,hp⟩:=h;have h:Wx B b vs vf vt l W:=⟨p,hp⟩;have HP:=Hd hp;have H:=Hd h;have HW:=Hd hW;have k8:b<W.heap.size:=h.lt.1;have j9:B<=b:=h.lt.2;obtain⟨bt,ct,pk,ck,rfl,k0,k1,k2,k3,k4,k5,k6⟩:=TH hT d;have i7:bt<B:=by rw[<-hwa];exact J5 wa _ k0
   have up:∀ j u,wa.cell? ⟨bt,j,none⟩=some u->W.cell? ⟨bt,j,none⟩=some u:=fun j u hj=>(hW.cell (p:=⟨bt,j,none⟩) i7).trans hj
   replace k0:=up _ _ k0
   replace k1:=up _ _ k1
   replace k2:=up _ _ k2
   replace k3:=up _ _ k3
   replace k4:=up _ _ k4
   replace k5:=up _ _ k5
   obtain⟨v,d9,-⟩:=hp.ex;have cb:W.cell? ⟨b,2,none⟩=some (.slice (some ⟨bt,0,none⟩) T.length ct):=by rw[Lib.cell_of_heap d9];rfl
   obtain⟨t,ht⟩:=Oa (Ke T id);have a8:=Hd (TP hok.desc d);have d3:=hok.head id d;have e3:=hok.kids id d;have e2:=hok.hl id d;have d2:=hok.desc id d;rw[ht] at k0 k1 k2 k3 k4 k5 k6 a8 d3 e3 e2 d2;have g4:=Hd d3;have g1:=Hd d2;have g8:Hid (OW W):=hO.bl (by have h:=hW;rw[<-hwa] at h;exact h);have g6:=Hd k6;have i6:B<=W.heap.size:=by omega
   clear h hp hW up d9 ht d3 d2 ih k6
   go_in
   go_wp2_with fail
   refine (TC _ HP.o).mono ?_;rintro e w1 ⟨rfl,rfl⟩
   cases K:decide (20000<l.length)
   ·have e4:l.length<=20000:=by have:=of_decide_eq_false K;omega
    clear K;obtain⟨U,V⟩:=Oa (W.alloc (.cells #[.int .i64 t.op,.string (Oo t.sort),.string (Oo t.text),.int .i64 t.a,.int .i64 t.b,.slice pk t.kids.length ck] 57));have Y:Up W U:=by rw[<-V];exact Oz _ _
    have e5:U.heap[W.heap.size]? = some (.cells #[.int .i64 t.op,.string (Oo t.sort),.string (Oo t.text),.int .i64 t.a,.int .i64 t.b,.slice pk t.kids.length ck] 57 (0,0)):=by rw[<-V];exact ST _ _
    have h0:=Hd V;have g0:=Hd Y;have J:=Hd e5;have d5:Hid (Wrote B b vs vf (.slice (some ⟨bt,0,none⟩) T.length ct) W l U):=⟨H.o.bl Y,Y.mono i6,Fr.of Y⟩;have i8:W.heap.size<U.heap.size:=by rw[<-V];simp
    clear V Y e5
    go_upto_region 2 with fail
    rw[h0.o];clear k0 k1 k2 k3 k4 k5 cb;have x0:U.cell? ⟨W.heap.size,0,none⟩=some (.int .i64 t.op):=by rw[Lib.cell_of_heap J.o];rfl
    have x1:U.cell? ⟨W.heap.size,1,none⟩=some (.string (Oo t.sort)):=by rw[Lib.cell_of_heap J.o];rfl
    have x2:U.cell? ⟨W.heap.size,2,none⟩=some (.string (Oo t.text)):=by rw[Lib.cell_of_heap J.o];rfl
    have x3:U.cell? ⟨W.heap.size,3,none⟩=some (.int .i64 t.a):=by rw[Lib.cell_of_heap J.o];rfl
    have x4:U.cell? ⟨W.heap.size,4,none⟩=some (.int .i64 t.b):=by rw[Lib.cell_of_heap J.o];rfl
    have x5:U.cell? ⟨W.heap.size,5,none⟩=some (.slice pk t.kids.length ck):=by rw[Lib.cell_of_heap J.o];rfl
    have b7:=Hd (WV t pk t.kids.length ck U g4.o (g8.o.bl g0.o));obtain⟨Z,e1⟩:=Oa (SM t);rw[e1] at b7 a8 e2;clear e1
    by_cases b4:t.kids.length=0
    ·have z0:((t.kids.length:Int)==0)=true:=by rw[Yf];omega
     have HE:Hid (SB T id=Z):=by unfold Hid;rw[a8.o,if_pos (Jw b4)]
     clear b4
     go_wp2_with fail
     refine b7.o.mono ?_;rintro e w2 ⟨rfl,G⟩;have b8:=Hd (d5.o.down G (by omega));have j0:=G.size;obtain⟨W3,E⟩:=Oa (w2.alloc (.cells #[.string (Oo Z)] 9));have I:Up w2 W3:=by rw[<-E];exact Oz _ _
     have a7:W3.heap[w2.heap.size]? = some (.cells (JD [Z]).toArray 9 (0,0)):=by rw[<-E];exact ST _ _
     have O:=Hd (b8.o.down I (by omega));have c6:=Hd E;have b6:=Hd a7;have d0:B<=W3.heap.size:=by have:=I.size;omega
     clear G E I a7
     go_wp2_with fail
     rw[c6.o];refine (TG [Z] _ O.o.wx b6.o (by omega) d0 (by simp) (by simp;omega)).mono ?_;rintro e w4 ⟨rfl,h4⟩;have M:=Hd (O.o.trans h4);clear h4
     go_wp2_with fail
     go_end0
     refine⟨rfl,_,.inl ?_,?_,M.o⟩
     ·rw[HE.o];simp
     simp;omega
    have z0:((t.kids.length:Int)==0)=false:=by rw[Jb];omega
    have d4:t.kids≠[]:=fun e=>b4 (by rw[e];rfl);have HE:Hid (SB T id=(([40]++Z++[32])++jn T t.kids)++[41]):=by
     unfold Hid;rw[a8.o,if_neg d4,<-oE T t.kids d4];simp
    clear b4 d4
    go_wp2_with fail
    refine b7.o.mono ?_;rintro e w2 ⟨rfl,G⟩;have b8:=Hd (d5.o.down G (by omega));have h6:=Hd ((G.block W.heap.size i8).trans J.o);have j0:=G.size;obtain⟨W3,E⟩:=Oa (w2.alloc (.cells #[.string ⟨#[40]⟩,.string (Oo Z),.string ⟨#[32]⟩] 9));have I:Up w2 W3:=by rw[<-E];exact Oz _ _
    have a7:W3.heap[w2.heap.size]? = some (.cells (JD [[40],Z,[32]]).toArray 9 (0,0)):=by rw[<-E];exact ST _ _
    have O:=Hd (b8.o.down I (by omega));have h8:=Hd ((I.block W.heap.size (by omega)).trans h6.o);have c6:=Hd E;have b6:=Hd a7;have d0:B<=W3.heap.size:=by have:=I.size;omega
    clear G E I a7 x0 x1 x2 x3 x4 x5
    go_wp2_with fail
    rw[c6.o];refine (TG [[40],Z,[32]] _ O.o.wx b6.o (by omega) d0 (by simp) (by simp;omega)).mono ?_;rintro e w4 ⟨rfl,h4⟩;have e6:=h4.fr W.heap.size _ (by omega) h8.o (fun cur fz e=>by injection e with _ e;exact absurd e (by decide));have M:=Hd (O.o.trans h4);have y5:w4.cell? ⟨W.heap.size,5,none⟩=some (.slice pk t.kids.length ck):=by rw[Lib.cell_of_heap e6];rfl
    obtain⟨l4,b5⟩:=Oa (l++[[40],Z,[32]].flatten);have j4:l4.length=l.length+Z.length+2:=by rw[<-b5];simp;omega
    have g7:Hid (l4=l++([40]++Z++[32])):=by unfold Hid;rw[<-b5];simp
    rw[b5] at M;clear h4 e6 b5
    go_wp2_with fail
    refine (TT hwa g5.o g1.o e3 (by omega) g6.o l4 w4 M.o.wx (HW.o.trans M.o.bel) (by omega)).mono ?_;rintro e w5 ⟨rfl,l5,d8,l0,h5⟩;have b9:=Hd (M.o.trans h5);have f9:=Hd d8;have h9:B<=w5.heap.size:=by have:=b9.o.wx.lt;omega
    have k7:b<w5.heap.size:=b9.o.wx.lt.1;obtain⟨W6,b3⟩:=Oa (w5.alloc (.cells #[.string ⟨#[41]⟩] 9));have d1:Up w5 W6:=by rw[<-b3];exact Oz _ _
    have e0:W6.heap[w5.heap.size]? = some (.cells (JD [[41]]).toArray 9 (0,0)):=by rw[<-b3];exact ST _ _
    have d6:=Hd (b9.o.down d1 h9);have h2:=Hd b3;have g3:=Hd e0;have i1:B<=W6.heap.size:=by have:=d1.size;omega
    clear d8 h5 b3 d1 e0 y5
    go_wp2_with fail
    rw[h2.o];refine (TG [[41]] _ d6.o.wx g3.o (by omega) i1 (by simp) (by simp;omega)).mono ?_;rintro e w7 ⟨rfl,h7⟩;have g9:=Hd (d6.o.trans h7);clear h7
    go_wp2_with fail
    go_end0
    refine⟨rfl,_,?_,?_,g9.o⟩
    ·rw[HE.o];exact (Ap.trans (.inl g7.o) f9.o).put [41]
    simp;omega
   have e4:20000<l.length:=of_decide_eq_true K;clear K
   go_wp2_with fail
   go_end0
   exact⟨rfl,l,Ap.skip e4 _,Nat.le_max_left _ _,H.o,Je _ _,Fr.refl _ _⟩
def SW (S:List (List UInt8))(F:List Fn)(T:List Tm)(id:Int):List UInt8:=if Gn S Gt F T=true/\0<=id/\id<(T.length:Int)/\(SB T id.toNat).length<=20000 then SB T id.toNat else []
theorem TB {w:World}{vs vf vt:Value}{S:List (List UInt8)}{F:List Fn}(id:Int)(h:BankAt w vs vf vt S F T)(hz:BankZ S F T)(hv:Vars w)(ho:OW w)(hok:Gn S Gt F T=true->TmsOk T/\T.length<=3000/\∀ i,i<T.length->SB T i≠[])(h1 : -9223372036854775808<=id)(h2:id<=9223372036854775807) :
 Calls prog 39 #[.agg #[vs,vf,vt],.int .i64 id] w fun e w'=>e=.returned (.string (Oo (SW S F T id)))/\Up w w':=by
 obtain⟨W0,G⟩:=Oa (w.alloc (.cells #[vs,vf,vt] 32));have j:Up w W0:=by rw[<-G];exact Oz _ _
 have U:Bx W0 w.heap.size [vs,vf,vt]:=by rw[<-G];exact Oi w _ _
 have d7:=Hd G;have V:=Hd j;have a7:=Hd U;have d3:=Hd (h.bl j);have d4:=Hd (TD (h.bl j) hz (hv.bl j));have Z:=Hd hok;have d6:=Hd (ho.bl j);obtain⟨ps,cs,rfl,-,-,-⟩:=h.s;obtain⟨pf,cf,rfl,-,-,-⟩:=h.f;obtain⟨pt,ct,rfl,-,-,-⟩:=h.t;have g5:=hz.lt;obtain⟨c0,c1,c2⟩:=U.c3;clear h hv ho hok G j U
 go_in
 go_upto_region 1 with fail
 rw[d7.o]
 go_wp2_with fail
 refine d4.o.mono ?_;rintro e w1 ⟨rfl,J⟩;rw[Li];have d:=Hd (V.o.trans (J.mono V.o.size));have M:=Hd J;obtain⟨d0,d1,d2⟩:=(a7.o.bl a7.o.lt J).c3;clear J c0 c1 c2
 cases hg:Gn S Gt F T
 ·have E:Hid (SW S F T id=[]):=by unfold Hid SW;rw[if_neg (by rw[hg];simp)]
  clear hg
  go_wp2
  go_ret
  exact⟨by rw[E.o];rfl,d.o⟩
 obtain⟨hok,e5,b5⟩:=Z.o hg;have HG:=Hd hg;clear hg
 by_cases e1:id<0
 ·have z1:decide (id<0)=true:=Ja e1;have E:Hid (SW S F T id=[]):=by unfold Hid SW;rw[if_neg (by omega)]
  go_wp2
  go_ret
  exact⟨by rw[E.o];rfl,d.o⟩
 have z1:decide (id<0)=false:=Jc e1
 by_cases e2:(T.length:Int)<=id
 ·have z2:decide ((T.length:Int)<=id)=true:=Ja e2;have E:Hid (SW S F T id=[]):=by unfold Hid SW;rw[if_neg (by omega)]
  go_wp2
  go_ret
  exact⟨by rw[E.o];rfl,d.o⟩
 obtain⟨n,rfl⟩:∃ n:Nat,id=(n:Int):=⟨id.toNat,by omega⟩;have b4:n<T.length:=by omega
 have z2:decide ((T.length:Int)<=(n:Int))=false:=Jc e2;have z3:decide (T.length<=n)=false:=Jc (by omega);have d5:=Hd (b5 n b4);have e8:=Hd hok;obtain⟨W2,I⟩:=Oa (w1.alloc (.cells #[.slice ps S.length cs,.slice pf F.length cf,.slice pt T.length ct,.pointer none,.slice none 0 0] 109));have O:Up w1 W2:=by rw[<-I];exact Oz _ _
 have b7:Wx w1.heap.size w1.heap.size (.slice ps S.length cs) (.slice pf F.length cf) (.slice pt T.length ct) [] W2:=⟨.pointer none,⟨.slice none 0 0,by rw[<-I];exact ST _ _,V7 _ _ _ _⟩,leR,.inl rfl⟩;have d9:=Hd (TS (wa:=w1) rfl (d3.o.t.bl M.o) e5 (d6.o.bl M.o) hok (n+1) n (Yl n) b4 [] W2 b7 O (Jr _));have d8:=Hd I;have c6:=Hd (d.o.trans (O.mono d.o.size));have b6:w.heap.size<=w1.heap.size:=d.o.size;clear hok b5 I O b7 e1 e2 Z
 go_upto_region 4 with fail
 rw[d8.o]
 go_wp2_with fail
 refine d9.o.mono ?_;rintro e w3 ⟨rfl,l,hA,-,hR⟩;have HA:=Hd hA;have HR:=Hd hR;obtain⟨p,hp⟩:=hR.wx;have HP:=Hd hp;have Y:=Hd (c6.o.trans (hR.bel.mono b6));clear hA hR hp
 go_wp2_with fail
 refine (TC _ HP.o).mono ?_;rintro e w4 ⟨rfl,rfl⟩
 cases hf:decide (20000<l.length)
 ·have hl:l.length<=20000:=by have:=of_decide_eq_false hf;omega
  have K:l=SB T n:=by
   rcases HA.o with h|h
   ·simpa using h
   omega
  have E:Hid (SW S F T (n:Int)=l):=by
   unfold Hid SW;rw[Int.toNat_natCast,if_pos ⟨HG.o,by omega,by omega,by rw[<-K];exact hl⟩,K]
  have e6:l≠[]:=by rw[K];exact d5.o
  clear hf K
  go_wp2_with fail
  refine (JC _ HP.o e6).mono ?_;rintro e w5 ⟨rfl,a8⟩;have c8:=Hd (Y.o.trans (a8.mono b6));clear a8
  go_wp2
  go_ret
  exact⟨by rw[E.o];rfl,c8.o⟩
 have hl:20000<l.length:=of_decide_eq_true hf;have E:Hid (SW S F T (n:Int)=[]):=by
  unfold Hid SW;rw[Int.toNat_natCast,if_neg];rintro⟨-,-,-,h4⟩
  rcases HA.o with h|h
  ·rw[h] at hl;simp at hl;omega
  have:=h.2;simp at this;omega
 clear hf
 go_wp2
 go_ret
 exact⟨by rw[E.o];rfl,Y.o⟩
end Go.Proofs.YtphhhciffpkojaaGreatDoor
namespace Go.Proofs.YtphhhciffpkojaaGreatDoor
open ChangeShapes WideShapes ChangeAt RowKit
variable {F:List Fn}{S:List (List UInt8)}{T:List Tm}{t:Tm}
theorem WZ (h:Gn S Gt F T=true):T.length<=3000/\Gk S F=true/\∀ i,i<T.length->U6 S Gt F T i (Ke T i)=true:=by
 unfold Gn at h;rw[J3,J3,Yi] at h;refine⟨h.1.1,h.1.2,fun i hi=>?_⟩;have d:=Jt.1 h.2 i (Y5.2 hi);rw[Jd hi] at d;have e:Ke T i=T[i]:=by unfold Ke;rw[Int.toNat_natCast,Jd hi];rfl
 rw[e];rw[J3] at d;exact d.1
theorem oT (o:Int):Fz o<=50:=by
 unfold Fz
 repeat (first|split|decide)
 all_goals omega
theorem WB (h:K5 t=true):(1<=t.op/\t.op<=47)/\t.kids.length<=50/\(t.text=[]∨t.op=11∨t.op=12∨t.op=24):=by
 unfold K5 at h;simp only[J3,Yi] at h;refine⟨h.1.1.1.1,Yc h.1.1.1.2.2 (oT _),h.1.1.2⟩
theorem TJ (h:Gn S Gt F T=true):JL T:=fun i hi x hx=>by
 have d:=(WZ h).2.2 i hi
 unfold U6 Xp at d
 simp only[J3] at d
 have j:=Jt.1 d.1.2 x hx
 rw[Yi] at j
 omega
theorem oW {n:List UInt8}{i:Nat}(h:Gk S F=true)(hf:Od F n=some i):0<n.length/\n.length<=60:=by
 unfold Gk at h;simp only[J3] at h;obtain⟨I,E,-⟩:=Zk.1 hf;rw[Yi] at E;have j:=h.1.2;unfold Ha at j;have G:S.length+i<(S++F.map (·.name)).length:=by simp;omega
 have d:=Jt.1 j (S.length+i) (Y5.2 G);rw[Jd G] at d;rw[show (S++F.map (·.name))[S.length+i]=n by rw[Vy (by omega)];simp[E]] at d;simp only[J3] at d;have h3:=d.1;unfold Ni Ng at h3;simp only[J3,Yi] at h3;exact⟨h3.1.1.1,h3.1.1.2⟩
theorem yY (S:List (List UInt8))(ks:List (List UInt8))(i:Nat):(Kc (Ov (Ok S)) ks i).width<=64:=by
 unfold Kc
 split
 ·exact En _ _
 exact Jr _
theorem oI (h:Gt t=true):0<t.text.length/\t.text.length<=20000:=by
 obtain⟨K,j⟩:=(SQ t).1 h;have d:∀ l:List UInt8,Q.isIntB (Oo l)=true->0<l.length/\l.length<=2501:=fun l hl=>by
  have h3:=Q.Ws (Oo l);have h4:(Oo l).size<=(Q.dgs (Oo l)).size+1:=by
   unfold Q.dgs
   split
   ·rw[Yo];omega
   omega
  unfold Q.isIntB at hl;simp only[J3,Uu,Yi] at hl;rw[H5] at h3 h4;omega
 rcases j with⟨-,j⟩|⟨-,k,x,y,J,E⟩
 ·have:=d _ j;omega
 cases k with
 | none=>have:=d _ E.1;omega
 | some i=>
   have h3:=(By J).2;have h4:=E.1.2;rw[GD] at h4 h3;have h5:=d _ h4;have G:=E.1.1;rw[Ax] at G;have I:=d _ G;rw[H5] at h3;rw[J4] at I;omega
theorem oK {n:Nat}(hN:Gk S F=true)(h:U6 S Gt F T n t=true):HeadOk t/\t.kids.length<=50/\(t.op=11->0<t.text.length/\t.text.length<=60)/\(t.op=12->0<t.text.length):=by
 unfold U6 at h;simp only[J3] at h;obtain⟨⟨O,-⟩,h3⟩:=h;obtain⟨M,U,V⟩:=WB O;have w1:=yY S (Nu T t) 0;have w2:=En (Ok S) t.sort;have d:t.op=11->0<t.text.length/\t.text.length<=60:=fun e=>by
  unfold Na at h3;rw[if_neg (by omega),if_neg (by omega),if_neg (by omega),if_neg (by omega),if_pos e] at h3;unfold Cs at h3
  cases K:Od F t.text with
  | none=>rw[K] at h3;cases h3
  | some i=>exact oW hN K
 have j:t.op=12->0<t.text.length/\t.text.length<=20000:=fun e=>by
  unfold Na at h3;rw[if_neg (by omega),if_neg (by omega),if_neg (by omega),if_neg (by omega),if_neg (by omega),if_pos e] at h3;exact oI h3
 have G:24<=t.op->Oh (Ov (Ok S)) t (Nu T t)=true:=fun e=>by
  unfold Na at h3;rw[if_neg (by omega),if_neg (by omega),if_neg (by omega),if_neg (by omega),if_neg (by omega),if_neg (by omega),if_neg (by omega),if_neg (by omega),if_neg (by omega),if_neg (by omega),if_neg (by omega)] at h3;exact h3
 have I:t.op=24->t.text.length<=64:=fun e=>by
  have:=G (by omega);unfold Oh at this;rw[if_pos e] at this;simp only[J3,Yi] at this;omega
 have E:t.op=43->0<=t.a/\t.a<64/\0<=t.b/\t.b<64:=fun e=>by
  have:=G (by omega);unfold Oh at this;rw[if_neg (by omega),if_neg (by omega),if_neg (by omega),if_pos e] at this;simp only[J3,Yi] at this;omega
 have J:t.op=44∨t.op=45->0<=t.a/\t.a<64:=fun e=>by
  have:=G (by omega);unfold Oh at this;rw[if_neg (by omega),if_neg (by omega),if_neg (by omega),if_neg (by omega),if_pos e] at this;simp only[J3,Yi] at this;omega
 refine⟨⟨M.1,M.2,?_,fun e=>?_,fun e=>?_⟩,U,d,fun e=>(j e).1⟩
 ·rcases V with e|e|e|e
  ·rw[e];exact Jr _
  ·have:=d e;omega
  ·exact (j e).2
  have:=I e;omega
 ·rcases e with e|e
  ·have:=E e;omega
  exact J e
 have:=E e;omega
theorem oD (s:List UInt8)(h:0<s.length):(Kl 2 s).length<=s.length+2/\Kl 2 s≠[]:=by
 have d:s≠[]:=fun e=>by rw[e] at h;exact absurd h (by decide)
 unfold Kl;simp
 split
 ·exact⟨by omega,d⟩
 simp
theorem oO {s:List UInt8}(h:s≠[]):TE s≠[]:=by
 unfold TE
 split
 ·simp
 exact h
theorem JJ (so tx:List UInt8)(h:0<tx.length):(TK so tx).length<=tx.length+20/\TK so tx≠[]:=by
 have j:tx≠[]:=fun e=>by rw[e] at h;exact absurd h (by decide)
 unfold TK
 split
 ·exact⟨by have:=TI tx;omega,oO j⟩
 split
 ·exact⟨by have:=TI (tx++[46,48]);simp at this ⊢;omega,oO (by simp)⟩
 rename_i i hi;have d:=TI (tx.take i++[46,48]);refine⟨?_,by simp⟩;simp at d ⊢;omega
theorem oY:(List.range 48).all (fun n=>decide ((JF.getD n []).length<=20)&&(decide (n=0)||decide (n=11)||decide (n=12)||decide (n=24)||decide (n=43)||decide (n=44)||decide (n=45)||!(JF.getD n []).isEmpty))=true:=by decide
theorem JT (h:HeadOk t)(k11:t.op=11->0<t.text.length)(k12:t.op=12->0<t.text.length):(SM t).length<=20100/\SM t≠[]:=by
 have h3:=h.tx;unfold SM
 by_cases j:t.op=11
 ·rw[if_pos j];have:=oD t.text (k11 j);exact⟨by omega,this.2⟩
 rw[if_neg j]
 by_cases E:t.op=12
 ·rw[if_pos E];have:=JJ t.sort t.text (k12 E);exact⟨by omega,this.2⟩
 rw[if_neg E]
 by_cases J:t.op=24
 ·rw[if_pos J];exact⟨by simp;omega,by simp⟩
 rw[if_neg J]
 by_cases d:t.op=43
 ·have h4:=h.ab (.inl d);have h5:=h.b d;have K:=SA t.a.toNat (by omega);have Y:=SA t.b.toNat (by omega);rw[if_pos d];exact⟨by simp;omega,by simp⟩
 rw[if_neg d]
 by_cases G:t.op=44
 ·have h4:=h.ab (.inr (.inl G));have K:=SA t.a.toNat (by omega);rw[if_pos G];exact⟨by simp;omega,by simp⟩
 rw[if_neg G]
 by_cases I:t.op=45
 ·have h4:=h.ab (.inr (.inr I));have K:=SA t.a.toNat (by omega);rw[if_pos I];exact⟨by simp;omega,by simp⟩
 rw[if_neg I];have U:=h.op1;have V:=h.op2;have O:=Jt.1 oY t.op.toNat (Y5.2 (by omega));rw[J3,Yi] at O;refine⟨by omega,fun e=>?_⟩;have M:=O.2;rw[e] at M;simp at M;omega
theorem JU (h:Gn S Gt F T=true):TmsOk T/\T.length<=3000/\∀ i,i<T.length->SB T i≠[]:=by
 obtain⟨j,E,h3⟩:=WZ h;have d:=fun i hi=>oK E (h3 i hi);have hl:=fun i hi=>JT (d i hi).1 (fun e=>((d i hi).2.2.1 e).1) (d i hi).2.2.2;refine⟨⟨TJ h,fun i hi=>(d i hi).1,fun i hi=>(d i hi).2.1,fun i hi=>(hl i hi).1⟩,j,fun i hi=>?_⟩;rw[TP (TJ h) hi]
 split
 ·exact (hl i hi).2
 simp
end Go.Proofs.YtphhhciffpkojaaGreatDoor
