import Derived.Test.YtphhhciffpkojaaGreatDoorP00
import Derived.Test.YtphhhciffpkojaaGreatDoorE3
import Derived.Test.YtphhhciffpkojaaGreatDoorE2
set_option maxRecDepth 100000
set_option maxHeartbeats 4000000
set_option linter.all false
namespace Go.Proofs.YtphhhciffpkojaaGreatDoor
open ChangeShapes WideShapes ChangeAt RowKit Proofs.Tryz
theorem TQ (B:Nat)(z:Value)(x:Int)(n:Nat)(u:ByteArray)(w:World)(hBw:B<=w.heap.size)(h:Q.Ih B w z x n)(hu:Q.No x u)(hne:0<u.size) :
 Calls prog 121 #[z] w fun e w'=>e=.returned (.string u)/\Up w w':=by
 obtain⟨neg,t,d,G,h3⟩:=h;have e:=(show Q.No x (Q.Bh (Q.Ky neg t) t) from ⟨neg,t,d.1,d.2.1,G,rfl⟩).eq hu;have j:t.length<=600/\Q.Xa (Q.Ky neg t) t=u:=by
  rw[<-e] at hne ⊢
  by_cases E:t=[]
  ·subst E;exact⟨Jr _,rfl⟩
  have hl:¬ t.length=0:=fun e=>E (Jw e);have I:=Q.textD_ge t d.1 d.2.1 E;unfold Q.Bh Q.Bg at hne ⊢;unfold Q.Xa;rw[if_neg hl] at hne;rw[if_neg hl,if_neg hl]
  by_cases h5:2500<(Q.textD t).length
  ·rw[if_pos h5] at hne;exact absurd hne (by decide)
  rw[if_neg h5];exact⟨by omega,rfl⟩
 refine (Q.UL B z neg t w d hBw j.1).mono ?_;rintro e w' ⟨rfl,hb⟩;exact⟨by rw[j.2],hb⟩
theorem WO {l:List UInt8}(h:Q.isIntB (Oo l)=true) :
 (l.head? = some 45/\Q.numT (Oo l)<0/\Q.No (-Q.numT (Oo l)) (Oo l.tail)/\0<l.tail.length)∨(l.head? ≠ some 45/\0<=Q.numT (Oo l)/\Q.No (Q.numT (Oo l)) (Oo l)/\0<l.length):=by
 have K:=Q.Hz _ h;have d:0<l.length:=by
  have h3:=Q.Ws (Oo l);unfold Q.isIntB at h;simp only[J3,Yi] at h;rw[H5] at h3;omega
 obtain⟨neg,t,G,j,I,E⟩:=id K
 by_cases J:t=[]
 ·subst J;have e:l=[48]:=X6 E;have U:Q.numT (Oo l)=0:=by rw[<-I];cases neg<;>rfl
  exact .inr ⟨by rw[e];decide,by omega,K,d⟩
 have hl:¬ t.length=0:=fun e=>J (Jw e);have Y:=Q.Ga t j J;have V:=Q.textD_ge t G j J;have M:0<t.length:=by omega
 have h5:¬ 2500<(Q.textD t).length:=fun h5=>by
  unfold Q.Bh Q.Bg at E;rw[if_neg hl,if_pos h5] at E;have:l=[]:=X6 E;rw[this] at d;exact absurd d (by decide)
 cases neg with
 | true=>
   have e:l=45::Q.textD t:=by
    unfold Q.Bh Q.Bg Q.Ky at E;rw[if_neg hl,if_neg h5,Ja M] at E;exact X6 E
   refine .inl ⟨by rw[e];rfl,by rw[<-I];show -((Q.val t:Nat):Int)<0;omega,⟨false,t,G,j,?_,?_⟩,?_⟩
   ·rw[<-I];show ((Q.val t:Nat):Int) = - -((Q.val t:Nat):Int);omega
   ·rw[e];unfold Q.Bh Q.Bg Q.Ky;rw[if_neg hl,if_neg h5];rfl
   rw[e];show 0<(Q.textD t).length;omega
 | false=>
   refine .inr ⟨fun e=>?_,by rw[<-I];show (0:Int)<=((Q.val t:Nat):Int);omega,K,d⟩;have O:Q.numT (Oo l)<=0:=by
    unfold Q.numT;rw[YE,Ja e]
    show -((Q.val _:Nat):Int)<=0
    omega
   rw[<-I] at O;have:((Q.val t:Nat):Int)<=0:=O;omega
def JR (r:Bool)(ng wh:Bool)(u v:List UInt8):List UInt8:=
 let s:=if ng then [40,45,32]++(u++(if r then [46,48] else []))++[41] else u++(if r then [46,48] else [])
 if wh then s else [40,47,32]++s++[32]++v++[46,48,41]
theorem JE {a b:List UInt8}(h:0<a.length):TE (a++b)=if a.head? = some 45 then [40,45,32]++(a.tail++b)++[41] else a++b:=by
 cases a with
 | nil=>exact absurd h (by decide)
 | cons c a=>rfl
theorem JP {t:Tm}(h:Gt t=true):∃ k x y u v,Q.IsCut (Oo t.text) k/\Q.RatV (Oo t.text) k x y/\Q.No (if x<0 then -x else x) (Oo u)/\0<u.length/\u.length<=100/\Q.No y (Oo v)/\0<v.length/\v.length<=100/\TK t.sort t.text=JR (decide (t.sort=Ku)) (decide (x<0)) (decide (y=1)) u v:=by
 have hL:=XN ((SQ t).1 h);have d:Q.No 1 (Oo [49]):=by
  have:=Q.Hz _ Q.int_one;rw[Q.num_one] at this;exact this
 have Hx:∀ l:List UInt8,Q.isIntB (Oo l)=true->l.length<=62->∃ u,Q.No (if Q.numT (Oo l)<0 then -Q.numT (Oo l) else Q.numT (Oo l)) (Oo u)/\0<u.length/\u.length<=100/\∀ b,TE (l++b)=if decide (Q.numT (Oo l)<0) then [40,45,32]++(u++b)++[41] else u++b:=fun l hl h6=>by
  rcases WO hl with⟨a1,a2,a3,a4⟩|⟨a1,a2,a3,a4⟩
  ·refine⟨l.tail,by rw[if_pos a2];exact a3,a4,by rw[List.length_tail];omega,fun b=>?_⟩;rw[JE (by rw[List.length_tail] at a4;omega),if_pos a1,Ja a2,if_pos rfl]
  refine⟨l,by rw[if_neg (by omega)];exact a3,a4,by omega,fun b=>?_⟩;rw[JE a4,if_neg a1,Jc (by omega),if_neg (by decide)]
 rcases ((SQ t).1 h).2 with⟨j,M⟩|⟨j,k,x,y,O,V⟩
 ·obtain⟨u,I,J,u3,u4⟩:=Hx _ M hL;refine⟨none,_,1,u,[49],NH M,⟨M,rfl,rfl⟩,I,J,u3,d,by decide,by decide,?_⟩;have:=u4 [];rw[List.append_nil] at this;unfold TK JR;rw[if_pos j,this,j];simp[show ¬ U8=Ku by decide]
 have hc:SC (Oo t.text)=k:=Q.isCut_unique (SR _) O;have G:¬ t.sort=U8:=by rw[j];decide
 cases k with
 | none=>
   obtain⟨E,rfl,rfl⟩:=V;obtain⟨u,I,J,u3,u4⟩:=Hx _ E hL;refine⟨none,_,1,u,[49],O,⟨E,rfl,rfl⟩,I,J,u3,d,by decide,by decide,?_⟩;unfold TK JR;rw[if_neg G,hc,j];simp only[decide_true,if_true];exact u4 _
 | some i=>
   have Z:=V;obtain⟨⟨E,K⟩,⟨g1,g2,g3,g4,g5⟩,rfl,rfl⟩:=V;rw[Ax] at E;rw[GD] at K g3 g4;obtain⟨u,I,J,u3,u4⟩:=Hx _ E (by rw[J4];omega);have U:=Q.Hz _ K;have Y:0<(t.text.drop (i+1)).length:=by
    rcases WO K with⟨-,-,-,h⟩|⟨-,-,-,h⟩
    ·rw[List.length_tail] at h;omega
    exact h
   refine⟨some i,_,_,u,t.text.drop (i+1),O,Z,by rw[Ax];exact I,J,u3,by rw[GD];exact U,Y,by rw[Zf];omega,?_⟩;have hy:¬ Q.numT (Q.cutQ (Oo t.text) (some i))=1:=fun e=>by
    rw[GD] at e;rw[e] at U;exact g3 (U.eq d)
   unfold TK JR;rw[if_neg G,hc,j,Jc hy,Ax];simp only[decide_true,if_true];rw[u4];rfl
theorem oP {B:Nat}{w:World}{z:Value}{x y:Int}(h:Q.IsQN B w z x y):Q.IsQN 0 w z x y:=by
 obtain⟨E,K,G,J,I,M,Y,O,V,U,rfl,d,j⟩:=h;exact⟨_,_,_,_,_,_,_,_,_,_,rfl,d.mono (Jr _),j.mono (Jr _)⟩
def oV (g:Nat)(x y:Int)(w:World):Prop:=∃ (p0:Int) (pn:Bool) (pa:Option Addr) (pl pc:Nat) (q0:Int) (qn:Bool) (qa:Option Addr) (ql qc:Nat),Q.Bx w g [.int .i64 p0,.bool pn,.slice pa pl pc,.int .i64 q0,.bool qn,.slice qa ql qc]/\Q.Ih 0 w (.agg #[.int .i64 p0,.bool pn,.slice pa pl pc]) x 1000/\Q.Ih 0 w (.agg #[.int .i64 q0,.bool qn,.slice qa ql qc]) y 1000
theorem oV.bl {g:Nat}{x y:Int}{w w':World}(h:oV g x y w)(hb:Up w w'):oV g x y w':=by
 obtain⟨E,K,G,J,I,M,Y,O,V,U,d,j,h3⟩:=h;exact⟨E,K,G,J,I,M,Y,O,V,U,d.bl d.lt hb,j.bl hb,h3.bl hb⟩
theorem JI (t:Tm)(w:World)(h:Gt t=true) :
 Calls prog 120 #[.string (Oo t.sort),.string (Oo t.text)] w fun e w'=>e=.returned (.string (Oo (TK t.sort t.text)))/\Up w w':=by
 have n5:=XN ((SQ t).1 h);obtain⟨k,x,y,u,v,hk,hv,hu,j4,o8,e4,j5,o9,e0⟩:=JP h;have e1:(Oo t.text).size<=maxLen:=by rw[H5];unfold maxLen;omega
 rw[e0];obtain⟨r,hr⟩:=Oa (decide (t.sort=Ku));have z1:((Oo t.sort).toList==[82,101,97,108])=r:=by
  rw[<-hr,Jk,Ou];rw[Yd,Yf,Ju];exact Iff.rfl
 rw[hr];obtain⟨ng,K⟩:=Oa (decide (x<0));obtain⟨wh,c6⟩:=Oa (decide (y=1));have z2:decide (Q.LG x 0<0)=ng:=by
  rw[<-K];unfold Q.LG
  by_cases e:x<0
  ·rw[if_pos e,Ja e];rfl
  rw[if_neg e,Jc e]
  by_cases e2:0<x
  ·rw[if_pos e2];rfl
  rw[if_neg e2];rfl
 rw[K,c6];obtain⟨X,hX⟩:=Oa (if x<0 then -x else x);rw[hX] at hu;have i7:Hid (ng=true->X = -x):=fun e=>by rw[<-hX,if_pos (of_decide_eq_true (K.trans e))]
 have i6:Hid (ng=false->X=x):=fun e=>by rw[<-hX,if_neg (of_decide_eq_false (K.trans e))]
 have HU:=Hd hu;have HV:=Hd e4;have h9:=Hd c6;have h6:=Hd (fun W=>Q.l2Read_any (Oo t.text) k x y W e1 hk hv);have j1:=H5 u;have j2:=H5 v;clear e0 h hk hv hu e4 e1 hr K c6 hX
 go_in
 go_wp2_with fail
 refine (h6.o _).mono ?_;rintro e w1 ⟨z,rfl,hz,O⟩;obtain⟨p0,pn,pa,pl,pc,q0,qn,qa,ql,qc,rfl,I,J⟩:=oP hz;obtain⟨W2,M⟩:=Oa (w1.alloc (.cells #[.int .i64 p0,.bool pn,.slice pa pl pc,.int .i64 q0,.bool qn,.slice qa ql qc] 142));have U:Up w1 W2:=by rw[<-M];exact Oz _ _
 have j:Q.Bx W2 w1.heap.size [.int .i64 p0,.bool pn,.slice pa pl pc,.int .i64 q0,.bool qn,.slice qa ql qc]:=by rw[<-M];exact Q.Oi w1 _ _
 have h8:=Hd M;have c8:=Hd (O.trans (U.mono O.size));have d2:Hid (Q.IsQN 0 W2 (.agg #[.int .i64 p0,.bool pn,.slice pa pl pc,.int .i64 q0,.bool qn,.slice qa ql qc]) x y):=⟨_,_,_,_,_,_,_,_,_,_,rfl,I.bl U,J.bl U⟩;have d5:=Hd j;have p1:w.heap.size<=w1.heap.size:=O.size;have c0:=j.cell 0;have c1:=j.cell 1;have c2:=j.cell 2;have c3:=j.cell 3;have c4:=j.cell 4;have c5:=j.cell 5;simp only[Jm,Js] at c0 c1 c2 c3 c4 c5;clear hz I J O U M j
 go_upto_region 2 with fail
 rw[h8.o]
 go_upto_if 14 with fail
 refine (Q.l2Sign_any _ x y _ d2.o).mono ?_;rintro e w3 ⟨rfl,V⟩;have E:=d5.o.bl d5.o.lt V;have b7:=Hd E;have d3:=Hd (d2.o.bl V);have b5:=Hd (c8.o.trans (V.mono c8.o.size));clear V c0 c1 c2 c3 c4 c5;have c0:=E.cell 0;have c1:=E.cell 1;have c2:=E.cell 2;have c3:=E.cell 3;have c4:=E.cell 4;have c5:=E.cell 5;simp only[Jm,Js] at c0 c1 c2 c3 c4 c5
 go_upto_if 14 with fail
 go_cut [] (fun wx=>oV w1.heap.size X y wx/\Up w wx)
 case first=>
  cases ng
  ·go_wp2
   go_meet
   refine⟨?_,b5.o⟩;obtain⟨e5,e9,e6,e8,e7,f5,g1,f8,g0,f9,e,I,J⟩:=d3.o
   cases e
   rw[i6.o (by first|rfl|trivial)];exact⟨_,_,_,_,_,_,_,_,_,_,b7.o,I,J⟩
  go_wp2_with fail
  refine (Q.l2Minus_any _ x y _ d3.o).mono ?_;rintro e w4 ⟨z,rfl,hz,b8⟩;obtain⟨r0,rn,ra,rl,rc,s0,sn,sa,sl,sc,rfl,I,J⟩:=hz;have d:=b7.o.bl b7.o.lt b8;have d6:=Hd d;have H1:=Hd I;have H2:=Hd J;have g7:=Hd (b5.o.trans (b8.mono b5.o.size));have l1:=d.cell 0;have l2:=d.cell 1;have l3:=d.cell 2;have l4:=d.cell 3;have l5:=d.cell 4;have l6:=d.cell 5;simp only[Jm,Js] at l1 l2 l3 l4 l5 l6;have p2:=d.frozen 0;have p3:=d.frozen 1;have p4:=d.frozen 2;have p5:=d.frozen 3;have p6:=d.frozen 4;have p7:=d.frozen 5;clear I J b8 d c0 c1 c2 c3 c4 c5
  go_wp2
  go_meet
  have Z:Q.Nh w4 w1.heap.size:=Q.Hh d6.o (by simp);have HK:=Q.keepsC6 w4 w1.heap.size (.int .i64 r0) (.bool rn) (.slice ra rl rc) (.int .i64 s0) (.bool sn) (.slice sa sl sc);refine⟨?_,?_⟩
  ·rw[i7.o (by first|rfl|trivial)];exact⟨_,_,_,_,_,_,_,_,_,_,((((((d6.o.set 0 (.int .i64 r0)).set 1 (.bool rn)).set 2 (.slice ra rl rc)).set 3 (.int .i64 s0)).set 4 (.bool sn)).set 5 (.slice sa sl sc)),H1.o.keeps Z Z HK,H2.o.keeps Z Z HK⟩
  exact ((((((g7.o.setCell (p:=⟨w1.heap.size,0,none⟩) (by dsimp only;omega) (.int .i64 r0)).setCell (p:=⟨w1.heap.size,1,none⟩) (by dsimp only;omega) (.bool rn)).setCell (p:=⟨w1.heap.size,2,none⟩) (by dsimp only;omega) (.slice ra rl rc)).setCell (p:=⟨w1.heap.size,3,none⟩) (by dsimp only;omega) (.int .i64 s0)).setCell (p:=⟨w1.heap.size,4,none⟩) (by dsimp only;omega) (.bool sn)).setCell (p:=⟨w1.heap.size,5,none⟩) (by dsimp only;omega) (.slice sa sl sc))
 obtain⟨e3,d8⟩:=hcut
 rename World=>w5
 have d0:=Hd d8;have d4:=Hd e3;clear d8 e3 c0 c1 c2 c3 c4 c5 E
 go_upto_if 18 with fail
 go_cut [7] (fun s7 wx=>s7=.string (Oo (if r then [46,48] else []))/\w5=wx)
 case first=>
  cases r
  ·go_wp2
   go_meet
   exact⟨rfl,rfl⟩
  go_wp2
  go_meet
  exact⟨rfl,rfl⟩
 obtain⟨rfl,rfl⟩:=hcut;obtain⟨pt,a7⟩:∃ pt:List UInt8,(if r then [46,48] else [])=pt:=⟨_,rfl⟩;have o3:pt.length<=2:=by rw[<-a7];cases r<;>decide
 have g9:=Hd a7;rw[a7];have o6:=H5 pt;obtain⟨e5,e9,e6,e8,e7,f5,g1,f8,g0,f9,a8,I,J⟩:=d4.o;have c0:=a8.cell 0;have c1:=a8.cell 1;have c2:=a8.cell 2;simp only[Jm,Js] at c0 c1 c2;have HT:=Hd (TQ 0 _ X 1000 (Oo u) w5 (Jr _) I HU.o (by rw[j1];exact j4));clear a7 a8 I J
 go_wp2_with fail
 refine HT.o.mono ?_;rintro e w6 ⟨rfl,b9⟩;have h0:=Hd (d4.o.bl b9);have d1:=Hd (d0.o.trans (b9.mono d0.o.size));clear b9 c0 c1 c2
 go_upto_if 24 with fail
 rw[yE];obtain⟨s,hs⟩:=Oa (u++pt);have o5:s.length<=200:=by rw[<-hs];simp;omega
 have HS:=Hd hs;rw[hs];have o7:=H5 s;clear hs
 go_cut [8] (fun s8 wx=>s8=.string (Oo (if ng then [40,45,32]++s++[41] else s))/\w6=wx)
 case first=>
  cases ng
  ·go_wp2
   go_meet
   exact⟨rfl,rfl⟩
  go_wp2
  go_meet
  refine⟨?_,rfl⟩;exact congrArg Value.string (show (⟨#[40,45,32]⟩++Oo s++⟨#[41]⟩:ByteArray)=_ by rw[oF,JV];rfl)
 obtain⟨rfl,rfl⟩:=hcut;obtain⟨f,hf⟩:=Oa (if ng then [40,45,32]++s++[41] else s);have o2:f.length<=300:=by rw[<-hf];cases ng<;>simp<;>omega
 rw[hf];have HE:Hid (JR r ng wh u v=if wh then f else [40,47,32]++f++[32]++v++[46,48,41]):=by
  unfold Hid JR;rw[g9.o,HS.o,hf]
 have o4:=H5 f;obtain⟨e5,e9,e6,e8,e7,f5,g1,f8,g0,f9,G,I,J⟩:=h0.o;have c0:=G.cell 0;have c1:=G.cell 1;have c2:=G.cell 2;have c3:=G.cell 3;have c4:=G.cell 4;have c5:=G.cell 5;simp only[Jm,Js] at c0 c1 c2 c3 c4 c5;have i1:=Hd (Q.l2Whole_anyT 0 _ X y w6 (Jr _) ⟨_,_,_,_,_,_,_,_,_,_,rfl,I,J⟩);have d7:=Hd G;have H2:=Hd J;clear hf G I J
 go_wp2_with fail
 refine i1.o.mono ?_;rintro e w7 ⟨rfl,Y⟩;rw[h9.o];have b3:=d7.o.bl d7.o.lt Y;have HT:=Hd (TQ 0 _ y 1000 (Oo v) w7 (Jr _) (H2.o.bl Y) HV.o (by rw[j2];exact j5));have b6:=Hd (d1.o.trans (Y.mono d1.o.size));clear Y c0 c1 c2 c3 c4 c5;have c3:=b3.cell 3;have c4:=b3.cell 4;have c5:=b3.cell 5;simp only[Jm,Js] at c3 c4 c5;clear b3
 cases wh
 ·go_wp2_with fail
  refine HT.o.mono ?_;rintro e w8 ⟨rfl,d9⟩;have g8:=Hd (b6.o.trans (d9.mono b6.o.size));clear d9
  go_wp2
  go_ret
  refine⟨?_,g8.o⟩;rw[HE.o];exact congrArg (fun x=>Ending.returned (Value.string x)) (show (⟨#[40,47,32]⟩++Oo f++⟨#[32]⟩++Oo v++⟨#[46,48,41]⟩:ByteArray)=_ by apply ByteArray.ext;simp[Oo])
 go_wp2
 go_ret
 exact⟨by rw[HE.o];rfl,b6.o⟩
end Go.Proofs.YtphhhciffpkojaaGreatDoor
