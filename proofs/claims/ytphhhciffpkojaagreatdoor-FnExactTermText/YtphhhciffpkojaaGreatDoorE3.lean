import Derived.Test.YtphhhciffpkojaaGreatDoorP00
import Derived.Test.YtphhhciffpkojaaGreatDoorE2
import Derived.Deep.RegionHeld3
import Derived.Deep.DeepCutAuto
set_option maxRecDepth 100000
set_option maxHeartbeats 2000000
set_option linter.all false
namespace Go.Proofs.YtphhhciffpkojaaGreatDoor
open ChangeShapes WideShapes ChangeAt RowKit Proofs.Tryz
def dd (n:Nat):List UInt8:=if n<10 then [UInt8.ofNat (48+n)] else [UInt8.ofNat (48+n / 10),UInt8.ofNat (48+n % 10)]
theorem oB {n:Nat}(h:n<64):Lib.decDigits n=dd n:=by
 unfold dd
 by_cases e:n<10
 ·rw[if_pos e,Lib.decDigits_one e]
 rw[if_neg e,Lib.decDigits_two e (by omega)]
theorem oM:(List.range 64).all (fun n=>Q.isIntB (Oo (dd n))&&decide (Q.numT (Oo (dd n))=(n:Int)))=true:=by kernel_rfl
theorem JA {n:Nat}(h:n<64):Q.No (n:Int) (Oo (Lib.decDigits n)):=by
 have d:=Jt.1 oM n (Y5.2 h);rw[J3,Yi] at d;rw[oB h];have:=Q.Hz _ d.1;rw[d.2] at this;exact this
theorem WW (ng:Bool)(t:List Nat)(h:t.length<=200):Q.Xa ng t=Q.Bh ng t:=by
 have E:=Q.Su t;unfold Q.Xa Q.Bh Q.Bg
 by_cases d:t.length=0
 ·rw[if_pos d,if_pos d]
 have j:¬ 2500<(Q.textD t).length:=by omega
 rw[if_neg d,if_neg d];simp only[if_neg j]
theorem WF (B:Nat)(z:Value)(x:Int)(n:Nat)(w:World)(hBw:B<=w.heap.size)(h:Q.Ih B w z x n)(hn:n<=200) :
 Calls prog 121 #[z] w fun e w'=>∃ u,e=.returned (.string u)/\Q.No x u/\Up w w':=by
 obtain⟨neg,t,d,j,h3⟩:=h;refine (Q.UL B z neg t w d hBw (by omega)).mono ?_;rintro e w' ⟨rfl,hb⟩;exact⟨_,rfl,⟨neg,t,d.1,d.2.1,j,WW _ _ (by omega)⟩,hb⟩
theorem WC (B:Nat)(z:Value)(a:Int)(w:World)(hBw:B<=w.heap.size)(h:Q.Ih B w z a 3)(h0:0<=a)(h1:a<64) :
 Calls prog 121 #[z] w fun e w'=>e=.returned (.string (Oo (Lib.decDigits a.toNat)))/\Up w w':=by
 refine (WF B z a 3 w hBw h (by decide)).mono ?_;rintro e w' ⟨u,rfl,d,hb⟩;have:=JA (n:=a.toNat) (by omega);rw[show ((a.toNat:Nat):Int)=a by omega] at this;exact⟨by rw[d.eq this],hb⟩
end Go.Proofs.YtphhhciffpkojaaGreatDoor
namespace Go.Proofs.YtphhhciffpkojaaGreatDoor.Q
open ChangeShapes WideShapes ChangeAt RowKit Proofs.Tryz
theorem WD (neg:Bool)(p:Option Addr)(l c:Nat)(w:World)(hl:0<l) :
 Calls prog 149 #[.agg #[.int .i64 0,.bool neg,.slice p l c]] w fun e w'=>e=.returned (.slice p l c)/\w'=w.alloc (.cells #[.int .i64 0,.bool neg,.slice p l c] 140):=by
 go_in
 go_wp2
 go_ret
 exact⟨rfl,rfl⟩
theorem WN (w:World) :
 Calls prog 149 #[.agg #[.int .i64 0,.bool false,.slice none 0 0]] w fun e w'=>e=.returned (.slice none 0 0)/\w'=w.alloc (.cells #[.int .i64 0,.bool false,.slice none 0 0] 140):=by
 go_in
 go_wp2
 go_ret
 exact⟨rfl,rfl⟩
theorem l1Limbs_same (p:Option Addr)(l c:Nat)(w:World)(h:0<l∨(p=none/\l=0/\c=0)) :
 Calls prog 149 #[.agg #[.int .i64 0,.bool false,.slice p l c]] w fun e w'=>e=.returned (.slice p l c)/\w'=w.alloc (.cells #[.int .i64 0,.bool false,.slice p l c] 140):=by
 rcases h with h|⟨rfl,rfl,rfl⟩
 ·exact WD false p l c w h
 exact WN w
theorem WP (p:Option Addr)(l c:Nat)(w:World)(hl:0<l) :
 Calls prog 202 #[.slice p l c,.slice none 0 0] w fun e w'=>e=.returned (.int .i64 1)/\w'=w:=by
 have d:((l:Int)==0)=false:=by rw[Jb];omega
 have z2:((l:Int) != 0)=true:=by rw[bne,d];rfl
 have z3:decide ((l:Int)<0)=false:=Jc (by omega)
 go_in
 go_wp2
 go_ret
 exact⟨rfl,rfl⟩
theorem JH (neg:Bool)(p:Option Addr)(l c:Nat)(w:World)(hl:0<l)(hl2:l<=1000000) :
 Calls prog 195 #[.agg #[.int .i64 0,.bool neg,.slice p l c],.agg #[.int .i64 0,.bool false,.slice none 0 0]] w fun e w'=>e=.returned (.int .i64 (if neg then -1 else 1))/\Up w w':=by
 obtain⟨G,j⟩:=Oa ((w.alloc (.cells #[.int .i64 0,.bool neg,.slice p l c] 140)).alloc (.cells #[.int .i64 0,.bool false,.slice none 0 0] 140));have b3:=Hd j;have Z:Up w G:=by rw[<-j];exact Ob (Oz _ _) _
 have d:Bx G w.heap.size [.int .i64 0,.bool neg,.slice p l c]:=by rw[<-j];exact (Oi w _ _).bl (Oi w _ _).lt (Oz _ _)
 have h:Bx G (w.heap.size+1) [.int .i64 0,.bool false,.slice none 0 0]:=by
  rw[<-j];have:=Oi (w.alloc (.cells #[.int .i64 0,.bool neg,.slice p l c] 140)) [.int .i64 0,.bool false,.slice none 0 0] 140;rw[Jf] at this;exact this
 have V:Hid (∀ W,Up G W->(W.cell? ⟨w.heap.size,0,none⟩=some (.int .i64 0)/\W.cell? ⟨w.heap.size,1,none⟩=some (.bool neg)/\W.cell? ⟨w.heap.size,2,none⟩=some (.slice p l c))/\W.cell? ⟨w.heap.size+1,0,none⟩=some (.int .i64 0)/\W.cell? ⟨w.heap.size+1,1,none⟩=some (.bool false)/\W.cell? ⟨w.heap.size+1,2,none⟩=some (.slice none 0 0)):=fun W hW=>⟨⟨(d.bl d.lt hW).cell 0,(d.bl d.lt hW).cell 1,(d.bl d.lt hW).cell 2⟩,(h.bl h.lt hW).cell 0,(h.bl h.lt hW).cell 1,(h.bl h.lt hW).cell 2⟩;have E:=Hd Z;obtain⟨⟨c0,c1,c2⟩,d0,d1,d2⟩:=V.o G (Je _ _);have b7:((l:Int)==0)=false:=by rw[Jb];omega
 have K:Hid (YG 0 neg l=neg):=if_pos hl;have a8:Hid (YG 0 false 0=false):=rfl;clear j Z d h
 go_in
 go_upto_region 1 with fail
 rw[b3.o]
 go_wp2_with fail
 refine (Ki _ _ _ _ _ _).mono ?_;rintro e w1 ⟨rfl,h1⟩;rw[b7];have M:Up G w1:=by rw[h1];exact Oz _ _
 have Y:=Hd M;obtain⟨⟨c0,c1,c2⟩,d0,d1,d2⟩:=V.o w1 M;clear h1 M
 go_upto_region 7 with fail
 go_cut [26] (fun s26 wx=>s26=.bool neg/\Up G wx)
 case first=>
  go_region_held3 (fun W=>(W.cell? ⟨w.heap.size,0,none⟩=some (.int .i64 0)/\W.cell? ⟨w.heap.size,1,none⟩=some (.bool neg)/\W.cell? ⟨w.heap.size,2,none⟩=some (.slice p l c))/\W.cell? ⟨w.heap.size+1,0,none⟩=some (.int .i64 0)/\W.cell? ⟨w.heap.size+1,1,none⟩=some (.bool false)/\W.cell? ⟨w.heap.size+1,2,none⟩=some (.slice none 0 0)) (first|assumption|exact V.o _ (by repeat (first|exact Y.o|apply Below.drew|apply Ex))) (first|(go_at_call 150;refine (E0 _ _ _ _ _ _).mono ?_;rintro e w' ⟨rfl,rfl⟩;(first|rw[K.o]|rw[a8.o])))
  all_goals
   go_wp2
   go_meet
   refine⟨?_,?_⟩
   ·cases neg<;>rfl
   repeat (first|exact Y.o|apply Below.drew|apply Ex)
 obtain⟨rfl,O⟩:=hcut
 rename World=>w2
 have I:=Hd O;obtain⟨⟨c0,c1,c2⟩,d0,d1,d2⟩:=V.o w2 O;clear O
 cases neg
 ·go_upto_region 11 with fail
  go_cut [5] (fun s5 wx=>s5=.int .i64 1/\Up G wx)
  case first=>
   go_region_held3 (fun W=>(W.cell? ⟨w.heap.size,0,none⟩=some (.int .i64 0)/\W.cell? ⟨w.heap.size,1,none⟩=some (.bool false)/\W.cell? ⟨w.heap.size,2,none⟩=some (.slice p l c))/\W.cell? ⟨w.heap.size+1,0,none⟩=some (.int .i64 0)/\W.cell? ⟨w.heap.size+1,1,none⟩=some (.bool false)/\W.cell? ⟨w.heap.size+1,2,none⟩=some (.slice none 0 0)) (first|assumption|exact V.o _ (by repeat (first|exact I.o|apply Below.drew|apply Ex))) (first|(go_at_call 149;refine (l1Limbs_same _ _ _ _ ?hlx).mono ?_;(case hlx=>first|exact .inl hl|exact .inr ⟨rfl,rfl,rfl⟩);rintro e w' ⟨rfl,rfl⟩)|(go_at_call 202;refine (WP _ _ _ _ hl).mono ?_;rintro e w' ⟨rfl,rfl⟩))
   all_goals
    go_wp2
    go_meet
    refine⟨rfl,?_⟩
    repeat (first|exact I.o|apply Below.drew|apply Ex)
  obtain⟨rfl,U⟩:=hcut
  rename World=>w3
  have J:=Hd U;obtain⟨⟨c0,c1,c2⟩,d0,d1,d2⟩:=V.o w3 U;clear U
  go_wp2_with fail
  refine (E0 _ _ _ _ _ _).mono ?_;rintro e w4 ⟨rfl,h4⟩;rw[K.o];have a7:Hid (Up w w4):=by unfold Hid;rw[h4];exact Ex (E.o.trans (J.o.mono E.o.size)) _
  clear h4
  go_wp2
  go_ret
  exact⟨rfl,a7.o⟩
 go_wp2_with fail
 refine (E0 _ _ _ _ _ _).mono ?_;rintro e w3 ⟨rfl,h3⟩;rw[K.o];have J:Hid (Up w w3):=by unfold Hid;rw[h3];exact Ex (E.o.trans (I.o.mono E.o.size)) _
 clear h3
 go_wp2
 go_ret
 exact⟨rfl,J.o⟩
theorem WJ (B:Nat)(z:Value)(x:Int)(n:Nat)(w:World)(hn:n<=100000)(h:Ih B w z x n) :
 Calls prog 171 #[z] w fun e w'=>e=.returned (.int .i64 (LG x 0))/\Up w w':=by
 obtain⟨neg,t,G,E,hl⟩:=h;have M:Hid (∃ z0 zn za zl zc,z=.agg #[.int .i64 z0,.bool zn,.slice za zl zc]/\∀ W,Calls prog 195 #[.agg #[.int .i64 z0,.bool zn,.slice za zl zc],.agg #[.int .i64 0,.bool false,.slice none 0 0]] W fun e w'=>e=.returned (.int .i64 (LG x 0))/\Up W w'):=by
  obtain⟨ok,tr,G⟩:=G
  rcases G with⟨K,v,rfl,O⟩|⟨K,rfl⟩
  ·obtain⟨p,c,rfl,_⟩:=id O;refine⟨0,neg,p,t.length,c,rfl,fun W=>(JH neg p t.length c W (by omega) (by omega)).mono ?_⟩;rintro e w' ⟨rfl,hb⟩;refine⟨?_,hb⟩;have j:x≠0:=fun e=>by
    have:=(Xx neg t tr).1 (E.trans e);rw[this] at K;exact absurd K (by decide)
   cases neg with
   | true=>
     have:x<0:=by rw[<-E] at j ⊢;unfold sg at j ⊢;simp at j ⊢;omega
     rw[show LG x 0 = -1 from if_pos this];rfl
   | false=>
     have:0<x:=by rw[<-E] at j ⊢;unfold sg at j ⊢;simp at j ⊢;omega
     rw[show LG x 0=1 from (if_neg (by omega)).trans (if_pos this)];rfl
  refine⟨_,_,_,_,_,rfl,fun W=>?_⟩;rw[E];exact WK x 0 W
 obtain⟨z0,zn,za,zl,zc,rfl,hc⟩:=M.o;have J:=Hd hc;clear G E hl M hc
 go_in
 go_wp2_with fail
 refine (J.o _).mono ?_;rintro e w1 ⟨rfl,d⟩;have I:Hid (Up w w1):=by
  unfold Hid
  first|exact d|exact (Oz _ _).trans (d.mono (Oz _ _).size)
 clear d
 go_wp2
 go_ret
 exact⟨rfl,I.o⟩
theorem keepsC6 (W:World)(g:Nat)(u0 u1 u2 u3 u4 u5:Value):Ka g g W ((((((W.setCell ⟨g,0,none⟩ (u0)).setCell ⟨g,1,none⟩ (u1)).setCell ⟨g,2,none⟩ (u2)).setCell ⟨g,3,none⟩ (u3)).setCell ⟨g,4,none⟩ (u4)).setCell ⟨g,5,none⟩ (u5)):=
 Ka.setCell (Ka.setCell (Ka.setCell (Ka.setCell (Ka.setCell (Ka.setCell (Ka.refl g g W) ⟨g,0,none⟩ u0 (Or.inl rfl)) ⟨g,1,none⟩ u1 (Or.inl rfl)) ⟨g,2,none⟩ u2 (Or.inl rfl)) ⟨g,3,none⟩ u3 (Or.inl rfl)) ⟨g,4,none⟩ u4 (Or.inl rfl)) ⟨g,5,none⟩ u5 (Or.inl rfl)
theorem yH {w:World}{a1:Int}{n1:Bool}{d1:Option Addr}{l1 c1:Nat}{a2:Int}{n2:Bool}{d2:Option Addr}{l2 c2:Nat}{x y:Int}(h1:Ih 0 w (.agg #[.int .i64 a1,.bool n1,.slice d1 l1 c1]) x 1000)(h2:Ih 0 w (.agg #[.int .i64 a2,.bool n2,.slice d2 l2 c2]) y 1000):IsQN 0 w (.agg #[.int .i64 a1,.bool n1,.slice d1 l1 c1,.int .i64 a2,.bool n2,.slice d2 l2 c2]) x y:=⟨_,_,_,_,_,_,_,_,_,_,rfl,h1,h2⟩
theorem WG (z:Value)(x:Int)(n:Nat)(w:World)(h:Ih 0 w z x n) :
 Calls prog 172 #[z] w fun e w'=>∃ z',e=.returned z'/\Ih 0 w' z' (-x) n/\Up w w':=by
 obtain⟨neg,t,j,rfl,hl⟩:=h;refine (YZ 0 z neg t w j).mono ?_;rintro e w' ⟨z',rfl,d,hb⟩;exact⟨z',rfl,⟨!neg,t,d,KJ _ _,hl⟩,hb⟩
theorem l2Minus_any (z:Value)(x y:Int)(w:World)(h:IsQN 0 w z x y) :
 Calls prog 147 #[z] w fun e w'=>∃ z',e=.returned z'/\IsQN 0 w' z' (-x) y/\Up w w':=by
 obtain⟨a1,n1,d1,l1,c1,a2,J,G,I,c2,rfl,h1,h2⟩:=h;have H1:=Hd h1;have H2:=Hd h2;clear h1 h2;obtain⟨O,M⟩:=Oa ((w.alloc (.cells #[.int .i64 a1,.bool n1,.slice d1 l1 c1,.int .i64 a2,.bool J,.slice G I c2] 142)).alloc (.cells #[.int .i64 0,.bool false,.slice none 0 0,.int .i64 0,.bool false,.slice none 0 0] 142));have b9:=Hd M;have U:Hid (Up w O):=by unfold Hid;rw[<-M];exact Ob (Oz _ _) _
 have e1:Hid (O.heap.size=w.heap.size+2):=by show O.heap.size=_;rw[<-M];simp
 have d:Bx O (w.heap.size) [.int .i64 a1,.bool n1,.slice d1 l1 c1,.int .i64 a2,.bool J,.slice G I c2]:=by
  rw[<-M];exact (Oi w _ _).alloc _
 have E:Bx O (w.heap.size+1) [.int .i64 0,.bool false,.slice none 0 0,.int .i64 0,.bool false,.slice none 0 0]:=by
  rw[<-M];have h:=Oi (w.alloc (.cells #[.int .i64 a1,.bool n1,.slice d1 l1 c1,.int .i64 a2,.bool J,.slice G I c2] 142)) [.int .i64 0,.bool false,.slice none 0 0,.int .i64 0,.bool false,.slice none 0 0] 142;rw[Jf] at h;exact h
 have b7:Hid (∀ W,Up O W->Bx W (w.heap.size) [.int .i64 a1,.bool n1,.slice d1 l1 c1,.int .i64 a2,.bool J,.slice G I c2]/\Bx W (w.heap.size+1) [.int .i64 0,.bool false,.slice none 0 0,.int .i64 0,.bool false,.slice none 0 0]):=fun W hW=>⟨d.bl d.lt hW,E.bl E.lt hW⟩;have T1:Hid (∀ W,Up O W->Calls prog 172 #[.agg #[.int .i64 a1,.bool n1,.slice d1 l1 c1]] W (fun e w'=>∃ z,e=.returned z/\Ih 0 w' z (-x) 1000/\Up W w')):=fun W hW=>WG _ x 1000 W ((H1.o.bl U.o).bl hW);have k0:=d.cell 0;have k1:=d.cell 1;have k2:=d.cell 2;have k3:=d.cell 3;have k4:=d.cell 4;have k5:=d.cell 5;simp only[Jm,Js] at k0 k1 k2 k3 k4 k5;clear M d E
 go_in
 go_upto_region 1 with fail
 rw[b9.o]
 go_wp2
 go_region_held3 (fun W=>W.cell? ⟨w.heap.size,0,none⟩=some (.int .i64 a1)/\W.cell? ⟨w.heap.size,1,none⟩=some (.bool n1)/\W.cell? ⟨w.heap.size,2,none⟩=some (.slice d1 l1 c1)/\W.cell? ⟨w.heap.size,3,none⟩=some (.int .i64 a2)/\W.cell? ⟨w.heap.size,4,none⟩=some (.bool J)/\W.cell? ⟨w.heap.size,5,none⟩=some (.slice G I c2)) (first
  | with_reducible assumption|with_reducible exact putS_6_6 (by with_reducible assumption) (w.heap.size+1) (by dsimp only;omega) _ _ _ _ _ _|go_keep) (first
  | (go_at_call 172
     refine (T1.o _ ?_).mono ?_
     ·exact (Je _ O).drew
     rintro e K ⟨u1,rfl,hu,hb⟩;have HU:=Hd hu;have V:Hid (Up O K):=(Je _ O).drew.trans hb;obtain⟨a5,n5,Z,l5,c5,rfl⟩:=hu.shape';have j:=b7.o K V.o;have e4:K.cell? ⟨w.heap.size,0,none⟩=some (.int .i64 a1)/\K.cell? ⟨w.heap.size,1,none⟩=some (.bool n1)/\K.cell? ⟨w.heap.size,2,none⟩=some (.slice d1 l1 c1)/\K.cell? ⟨w.heap.size,3,none⟩=some (.int .i64 a2)/\K.cell? ⟨w.heap.size,4,none⟩=some (.bool J)/\K.cell? ⟨w.heap.size,5,none⟩=some (.slice G I c2):=⟨(j.1).cell 0,(j.1).cell 1,(j.1).cell 2,(j.1).cell 3,(j.1).cell 4,(j.1).cell 5⟩;have r0:=j.2.cell 0;have r1:=j.2.cell 1;have r2:=j.2.cell 2;have r3:=j.2.cell 3;have r4:=j.2.cell 4;have r5:=j.2.cell 5;simp only[Jm,Js] at r0 r1 r2 r3 r4 r5;have f5:=j.2.frozen 0;have f8:=j.2.frozen 1;have f9:=j.2.frozen 2;have g0:=j.2.frozen 3;have g1:=j.2.frozen 4;have g2:=j.2.frozen 5;clear hu hb j))
 all_goals
  try simp only[Y3,Yv,Yp,Act.put,Jp,Jz,J0]
  go_wp2
  have b8:=(b7.o K V.o).2;have Y:Nh K (w.heap.size+1):=Hh b8 (by simp);have HK:=keepsC6 K (w.heap.size+1) (.int .i64 a5) (.bool n5) (.slice Z l5 c5) (.int .i64 a2) (.bool J) (.slice G I c2);have c8:=HU.o.keeps Y Y HK;have d0:=((H2.o.bl U.o).bl V.o).keeps Y Y HK;have c6:Up w ((((((K.setCell ⟨w.heap.size+1,0,none⟩ (.int .i64 a5)).setCell ⟨w.heap.size+1,1,none⟩ (.bool n5)).setCell ⟨w.heap.size+1,2,none⟩ (.slice Z l5 c5)).setCell ⟨w.heap.size+1,3,none⟩ (.int .i64 a2)).setCell ⟨w.heap.size+1,4,none⟩ (.bool J)).setCell ⟨w.heap.size+1,5,none⟩ (.slice G I c2)):=(((((((U.o.trans (V.o.mono U.o.size)).setCell (p:=⟨w.heap.size+1,0,none⟩) (by dsimp only;omega) (.int .i64 a5)).setCell (p:=⟨w.heap.size+1,1,none⟩) (by dsimp only;omega) (.bool n5)).setCell (p:=⟨w.heap.size+1,2,none⟩) (by dsimp only;omega) (.slice Z l5 c5)).setCell (p:=⟨w.heap.size+1,3,none⟩) (by dsimp only;omega) (.int .i64 a2)).setCell (p:=⟨w.heap.size+1,4,none⟩) (by dsimp only;omega) (.bool J)).setCell (p:=⟨w.heap.size+1,5,none⟩) (by dsimp only;omega) (.slice G I c2));have hZ:Bx ((((((K.setCell ⟨w.heap.size+1,0,none⟩ (.int .i64 a5)).setCell ⟨w.heap.size+1,1,none⟩ (.bool n5)).setCell ⟨w.heap.size+1,2,none⟩ (.slice Z l5 c5)).setCell ⟨w.heap.size+1,3,none⟩ (.int .i64 a2)).setCell ⟨w.heap.size+1,4,none⟩ (.bool J)).setCell ⟨w.heap.size+1,5,none⟩ (.slice G I c2)) (w.heap.size+1) [.int .i64 a5,.bool n5,.slice Z l5 c5,.int .i64 a2,.bool J,.slice G I c2]:=((((((b8.set 0 (.int .i64 a5)).set 1 (.bool n5)).set 2 (.slice Z l5 c5)).set 3 (.int .i64 a2)).set 4 (.bool J)).set 5 (.slice G I c2));generalize (((((K.setCell ⟨w.heap.size+1,0,none⟩ (.int .i64 a5)).setCell ⟨w.heap.size+1,1,none⟩ (.bool n5)).setCell ⟨w.heap.size+1,2,none⟩ (.slice Z l5 c5)).setCell ⟨w.heap.size+1,3,none⟩ (.int .i64 a2)).setCell ⟨w.heap.size+1,4,none⟩ (.bool J)).setCell ⟨w.heap.size+1,5,none⟩ (.slice G I c2)=W9 at *;have v0:=hZ.cell 0;have v1:=hZ.cell 1;have v2:=hZ.cell 2;have v3:=hZ.cell 3;have v4:=hZ.cell 4;have v5:=hZ.cell 5;simp only[Jm,Js] at v0 v1 v2 v3 v4 v5;refine Jg (v:=.agg #[.int .i64 a5,.bool n5,.slice Z l5 c5,.int .i64 a2,.bool J,.slice G I c2]) ?_ rfl ⟨_,rfl,yH c8 d0,c6⟩;simp[results,results147,go_sem,v0,v1,v2,v3,v4,v5]
theorem l2Sign_any (z:Value)(x y:Int)(w:World)(h:IsQN 0 w z x y) :
 Calls prog 146 #[z] w fun e w'=>e=.returned (.int .i64 (LG x 0))/\Up w w':=by
 obtain⟨a1,V,K,O,c1,a2,Y,M,U,c2,rfl,Z,h2⟩:=h;have H1:=Hd Z;clear Z h2;obtain⟨G,j⟩:=Oa (w.alloc (.cells #[.int .i64 a1,.bool V,.slice K O c1,.int .i64 a2,.bool Y,.slice M U c2] 142));have J:=Hd j;have E:Hid (Up w G):=by unfold Hid;rw[<-j];exact Oz _ _
 have b3:Hid (G.heap.size=w.heap.size+1):=by show G.heap.size=_;rw[<-j];simp
 have d:Bx G (w.heap.size) [.int .i64 a1,.bool V,.slice K O c1,.int .i64 a2,.bool Y,.slice M U c2]:=by
  rw[<-j];exact Oi w _ _
 have b4:Hid (∀ W,Up G W->Bx W (w.heap.size) [.int .i64 a1,.bool V,.slice K O c1,.int .i64 a2,.bool Y,.slice M U c2]):=fun W hW=>d.bl d.lt hW;have k0:=d.cell 0;have k1:=d.cell 1;have k2:=d.cell 2;have k3:=d.cell 3;have k4:=d.cell 4;have k5:=d.cell 5;simp only[Jm,Js] at k0 k1 k2 k3 k4 k5;clear j d
 go_in
 go_upto_region 1 with fail
 rw[J.o]
 go_wp2_with fail
 refine (WJ 0 _ x 1000 _ (by decide) (H1.o.bl E.o)).mono ?_;rintro e w1 ⟨rfl,I⟩;have HE:=Hd (E.o.trans (I.mono E.o.size));clear I
 go_wp2
 go_ret
 exact⟨rfl,HE.o⟩
end Go.Proofs.YtphhhciffpkojaaGreatDoor.Q
