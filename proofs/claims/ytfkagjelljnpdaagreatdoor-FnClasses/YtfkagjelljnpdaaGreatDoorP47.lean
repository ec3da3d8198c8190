import Derived.Test.YtfkagjelljnpdaaGreatDoorP38
import Derived.Test.YtfkagjelljnpdaaGreatDoorP46
set_option linter.all false
set_option maxRecDepth 100000
set_option maxHeartbeats 8000000
namespace Go.Proofs.YtfkagjelljnpdaaGreatDoor.Q
open ChangeShapes WideShapes ChangeAt RowKit Proofs.Tryz
theorem Dv(s:ByteArray)(w:World)(hs:s.size<=maxLen)(hk:Kb s none)(hSP:SP w)(hNS:NS w)(hLT:LT w) :
 Calls prog 160 #[.string s] w fun e w'=>∃z ok,e=.returned (.tuple #[z,.bool ok])/\Gl w.heap.size w' s none z ok/\Up w w':=by
 have HK:=Hd hk;have f9:=Hd hSP;have f8:=Hd hNS;have f5:=Hd hLT;clear hk hSP hNS hLT;obtain⟨p,hp⟩:=O2 (Xv s none);obtain⟨q,hq⟩:=O2 (Gw s none);obtain⟨b,hb⟩:=O2 ((none:Option Nat).isSome);have HP:Hid (Xv s none=p/\Gw s none=q/\(none:Option Nat).isSome=b):=⟨hp,hq,hb⟩;have d6:p.size<=maxLen:=by rw[<-hp];exact Jm (KC s none) hs
 have d7:q.size<=maxLen:=by rw[<-hq];exact Jm (KL s none) hs
 have d1:Hid (s.size<=maxLen/\p.size<=maxLen/\q.size<=maxLen):=⟨hs,d6,d7⟩;clear hp hq hb d6 d7;obtain⟨W0,Y⟩:=O2 (w.alloc (.cells #[.bool false,.slice none 0 0,.bool false,.slice none 0 0] 205));have e0:=Hd Y;have V:Hid (Up w W0):=by unfold Hid;rw[<-Y];exact Oy _ _
 have b5:Bx W0 w.heap.size [.bool false,.slice none 0 0,.bool false,.slice none 0 0]:=by rw[<-Y];exact Oq w _ _
 have HX:Hid (∀W,Up W0 W->Bx W w.heap.size [.bool false,.slice none 0 0,.bool false,.slice none 0 0]):=fun W hW=>b5.bl b5.lt hW;clear Y b5
 go_in
 go_wp2_with fail
 rw[e0.o];refine(Sn s none _ d1.o.1 HK.o).mono ?_;rintro e w1 ⟨rfl,Z⟩;rw[HP.o.1,HP.o.2.1,HP.o.2.2];obtain⟨W2,G⟩:=O2 ((w1.alloc (.cells #[.string p,.bool b,.string q] 214)).alloc (.cells #[.string p,.bool false,.string ⟨#[]⟩] 214));have e1:=Hd G;have a8:Up w1 W2:=by rw[<-G];exact Iy (Oy _ _) _
 have a1:Bx W2 w1.heap.size [.string p,.bool b,.string q]:=by rw[<-G];exact(Oq w1 _ _).alloc _
 have d4:Bx W2 (w1.heap.size+1) [.string p,.bool false,.string ⟨#[]⟩]:=by
  rw[<-G];have h:=Oq (w1.alloc (.cells #[.string p,.bool b,.string q] 214)) [.string p,.bool false,.string ⟨#[]⟩] 214;rw[Ju]at h;exact h
 have b1:Hid (Up W0 W2):=Z.trans (a8.mono Z.size);have e7:Hid (∀W,Up W2 W->Bx W w1.heap.size [.string p,.bool b,.string q]):=fun W hW=>a1.bl a1.lt hW;have g5:w.heap.size<w1.heap.size:=by have:=Z.size;have:=(HX.o W0 (Ji _ _)).lt;omega
 clear G a8 Z;obtain⟨k0,k1,k2⟩:=a1.k3;obtain⟨j0,j1,j2⟩:=d4.k3;clear a1 d4
 go_upto_region 3 with fail
 rw[e1.o];have a7:Hid (Up w W2):=V.o.trans (b1.o.mono V.o.size);have e4:∀W,(Op.equalIn 10000 214 (.agg #[.string p,.bool b,.string q]) (.agg #[.string p,.bool false,.string ⟨#[]⟩])).run prog W=.ok true W:=fun W=>by
  rw[FI,<-HP.o.2.1,<-HP.o.2.2];have:(Gw s none).toList=(⟨#[]⟩:ByteArray).toList:=rfl;rw[this];simp
 have d0:Hid (p=s):=HP.o.1.symm
 go_wp2_with fail
 refine(Xo p _ d1.o.2.1).mono ?_;rintro e w3 ⟨n,a,l,c,rfl,hI,d2⟩;have HI:=Hd hI;have b8:=Hd d2;obtain⟨ok,b4⟩:=O2 (Ol p);have c6:=Hd b4;rw[b4];clear hI d2 b4 k0 k1 k2 j0 j1 j2 e4
 go_wp2_with fail
 refine(Rt n a l c _).mono ?_;rintro e w4 ⟨K,R,O,c2,rfl,b0,d3⟩;have J:Up w3 w4:=(Oy w3 _).trans (d3.mono (by simp));have d9:=b8.up J;have E:Hid (Up W0 w4):=b1.o.trans (d9.o.mono b1.o.size);have c8:Hid (Qp w.heap.size w4 (.agg #[.bool K,.slice R O c2]) 1 300):=b0.mono (by have:=a7.o.size;have:=b8.o.size;simp;omega) (by omega);have b9:Hid (ok=true->Qp w.heap.size w4 (.agg #[.bool n,.slice a l c]) (G9 s) 300):=fun e=>by
  have hi:Ol p=true:=c6.o.trans e;obtain⟨hn,hL⟩:=HI.o hi;have h1:Qp W2.heap.size w3 (.agg #[.bool n,.slice a l c]) (G9 p) 280:=⟨Ur p,_,UI p,by rw[hn];rfl,hL,Gp _,rfl,Cm p hi⟩;rw[d0.o]at h1;exact(h1.bl J).mono a7.o.size (by omega)
 have j:=HX.o w4 E.o;obtain⟨r0,r1,r2,r3⟩:=j.k4;obtain⟨f0,f1,f2,f3⟩:=j.f4;clear b0 d3 J j
 go_wp2
 have j:=HX.o w4 E.o;have d5:Hi w4 w.heap.size:=Xm j (by simp);have hE:=Ld (V.o.trans (E.o.mono V.o.size)) w.heap.size leR (.bool n) (.slice a l c) (.bool K) (.slice R O c2);have h1:=c8.o.put4 d5 (.bool n) (.slice a l c) (.bool K) (.slice R O c2);have h2:=fun e=>(b9.o e).put4 d5 (.bool n) (.slice a l c) (.bool K) (.slice R O c2);have hZ:Bx ((((w4.setCell ⟨w.heap.size,0,none⟩ (.bool n)).setCell ⟨w.heap.size,1,none⟩ (.slice a l c)).setCell ⟨w.heap.size,2,none⟩ (.bool K)).setCell ⟨w.heap.size,3,none⟩ (.slice R O c2)) w.heap.size [.bool n,.slice a l c,.bool K,.slice R O c2]:=(((j.set 0 _).set 1 _).set 2 _).set 3 _;generalize (((w4.setCell ⟨w.heap.size,0,none⟩ (.bool n)).setCell ⟨w.heap.size,1,none⟩ (.slice a l c)).setCell ⟨w.heap.size,2,none⟩ (.bool K)).setCell ⟨w.heap.size,3,none⟩ (.slice R O c2)=WE at *;obtain⟨m0,m1,m2,m3⟩:=hZ.k4;have e3:Gl w.heap.size WE s none (.agg #[.bool n,.slice a l c,.bool K,.slice R O c2]) ok:=by
  have b3:Ol s=ok:=by rw[<-d0.o];exact c6.o
  refine⟨⟨n,a,l,c,K,R,O,c2,rfl⟩,?_,?_⟩
  ·constructor
   ·intro e;exact⟨G9 s,1,b3.trans e,rfl,rfl⟩
   rintro⟨x,y,h,_⟩;rw[<-b3];exact h
  intro e;exact⟨G9 s,1,⟨b3.trans e,rfl,rfl⟩,n,_,K,_,rfl,h2 e,h1⟩
 refine Jl (v:=.tuple #[.agg #[.bool n,.slice a l c,.bool K,.slice R O c2],.bool ok]) ?_ rfl ⟨_,ok,rfl,e3,hE⟩;simp[results,results160,go_sem,m0,m1,m2,m3]
theorem Mx(s:ByteArray)(x y:Int)(w:World)(hs:s.size<=maxLen)(hk:Kb s none)(hV:P7 s none x y) :
 Calls prog 88 #[.string s] w fun e w'=>∃z,e=.returned z/\Wm w.heap.size w' z x y/\Up w w':=by
 have HK:=Hd hk;have HV:=Hd hV;clear hk hV;obtain⟨W0,q⟩:=O2 (w.alloc (.cells #[.int .i64 0,.bool false,.slice none 0 0,.int .i64 0,.bool false,.slice none 0 0] 149));have b7:=Hd q;have j:Hid (Up w W0):=by unfold Hid;rw[<-q];exact Oy _ _
 have b1:Bx W0 w.heap.size [.int .i64 0,.bool false,.slice none 0 0,.int .i64 0,.bool false,.slice none 0 0]:=by rw[<-q];exact Oq w _ _
 have HX:Hid (∀W,Up W0 W->Bx W w.heap.size [.int .i64 0,.bool false,.slice none 0 0,.int .i64 0,.bool false,.slice none 0 0]):=fun W hW=>b1.bl b1.lt hW;clear q b1
 go_in
 go_wp2_with fail
 rw[b7.o];refine(Mi s none _ hs HK.o).mono ?_;rintro e w1 ⟨rfl,d1⟩;subst d1;have e1:Qf none = -1:=rfl;rw[e1]
 go_wp2_with fail
 refine(Cp s _ HV.o.1).mono ?_;rintro e w2 ⟨z1,rfl,b4,hb2⟩;have b0:=NF _ _ _ s HV.o.1 b4;obtain⟨a0,an,aa,al,ac,rfl⟩:=b0.shape';have b6:=Hd b0;have a7:=Hd hb2;clear b4 b0 hb2
 go_wp2_with fail
 refine(NY _ a0 an aa al ac (G9 s) _ a7.o.size b6.o).mono ?_;rintro e w3 ⟨z,rfl,hq,b3⟩;obtain⟨G,O,J,pl,K,R,qn,V,Z,Y,rfl,hP,hQ⟩:=hq;have a8:=Hd (a7.o.trans (b3.mono a7.o.size));have b2:Hid (Gs w.heap.size w3 (.agg #[.int .i64 G,.bool O,.slice J pl K]) x 1000/\Gs w.heap.size w3 (.agg #[.int .i64 R,.bool qn,.slice V Z Y]) y 1000):=by
  rw[HV.o.2.1,HV.o.2.2];exact⟨hP.mono' j.o.size leR,hQ.mono' j.o.size leR⟩
 have h:=HX.o w3 a8.o;obtain⟨r0,r1,r2,r3,r4,r5⟩:=h.k6;obtain⟨f0,f1,f2,f3,f4,f5⟩:=h.f6;clear hP hQ b3 h
 go_wp2
 have h:=HX.o w3 a8.o;have E:Hi w3 w.heap.size:=Xm h (by simp);have hk:=QZ w3 w.heap.size (.int .i64 G) (.bool O) (.slice J pl K) (.int .i64 R) (.bool qn) (.slice V Z Y);have c6:=b2.o.1.keeps E E hk;have c8:=b2.o.2.keeps E E hk;have b9:=MK (j.o.trans (a8.o.mono j.o.size)) w.heap.size leR (.int .i64 G) (.bool O) (.slice J pl K) (.int .i64 R) (.bool qn) (.slice V Z Y);have hZ:=h.put6 (.int .i64 G) (.bool O) (.slice J pl K) (.int .i64 R) (.bool qn) (.slice V Z Y);have d0:(((((w3.setCell ⟨w.heap.size,0,none⟩ (.int .i64 G)).setCell ⟨w.heap.size,1,none⟩ (.bool O)).setCell ⟨w.heap.size,2,none⟩ (.slice J pl K)).setCell ⟨w.heap.size,3,none⟩ (.int .i64 R)).setCell ⟨w.heap.size,4,none⟩ (.bool qn)).setCell ⟨w.heap.size,5,none⟩ (.slice V Z Y)=W6 w3 w.heap.size (.int .i64 G) (.bool O) (.slice J pl K) (.int .i64 R) (.bool qn) (.slice V Z Y):=rfl;rw[d0];generalize W6 w3 w.heap.size (.int .i64 G) (.bool O) (.slice J pl K) (.int .i64 R) (.bool qn) (.slice V Z Y)=W9 at *;obtain⟨m0,m1,m2,m3,m4,m5⟩:=hZ.k6;refine Jl (v:=.agg #[.int .i64 G,.bool O,.slice J pl K,.int .i64 R,.bool qn,.slice V Z Y]) ?_ rfl ⟨_,rfl,⟨G,O,J,pl,K,R,qn,V,Z,Y,rfl,c6,c8⟩,b9⟩;simp[results,results88,go_sem,m0,m1,m2,m3,m4,m5]
theorem Ah(s:ByteArray)(w:World)(hs:s.size<=maxLen)(hk:Kb s none) :
 Calls prog 89 #[.string s] w fun e w'=>∃b,e=.returned (.bool b)/\FK s b/\Up w w':=by
 have G:=Hd hk;clear hk
 go_in
 go_wp2_with fail
 refine(Mi s none _ hs G.o).mono ?_;rintro e w' ⟨rfl,j⟩;subst j;have J:Qf none = -1:=rfl;rw[J]
 go_wp2_with fail
 refine(Ck s _ hs).mono ?_;rintro e K ⟨rfl,q⟩;subst q;obtain⟨b,hb⟩:=O2 (Ol s);have E:=Hd hb;rw[hb];clear hb
 go_wp2
 go_ret
 refine⟨_,rfl,⟨none,G.o,?_⟩,Ji _ _⟩;constructor
 ·intro e;exact⟨G9 s,1,E.o.trans e,rfl,rfl⟩
 rintro⟨x,y,h,_⟩;rw[<-E.o];exact h
end Go.Proofs.YtfkagjelljnpdaaGreatDoor.Q
namespace Go.Proofs.YtfkagjelljnpdaaGreatDoor
open ChangeShapes WideShapes ChangeAt RowKit Proofs.Tryz
variable {F:List Fn}{S:List (List UInt8)}{T:List Tm}{vf vs vt:Value}{w:World}
theorem Tr{l:List UInt8}(h:Er l):Q.Kb (Oo l) none:=by
 intro j e;rw[Ov]at e;exact h (Zb e)
theorem Bl(t:Tm)(m:Int)(w:World)(hs:t.sort=Uu∨t.sort=Ui)(htx:t.text.length<=1048576)(hns:Er t.text)(hm:w.cell? ⟨1,0,none⟩=some (.int .i64 m))(hSP:Q.SP w)(hNS:Q.NS w)(hLT:Q.LT w) :
 Calls prog 141 #[.string (Oo t.sort),.string (Oo t.text)] w fun e w'=>e=.returned (.bool (Ep t))/\Up w w':=by
 have b3:(Oo t.text).size<=1048576:=by show t.text.toArray.size<=_;simpa using htx
 have V:(Oo t.text).size<=maxLen:=by unfold maxLen;omega
 have HN:Hid (Ep t=true↔Ab t.sort t.text):=Cj t;have b0:=Hd hSP;have a8:=Hd hNS;have a1:=Hd hLT;clear hSP hNS hLT
 go_in
 go_wp2_with fail
 refine(Rv (Oo t.text) m _ b3 hm).mono ?_;rw[Ov]
 cases J:Ea t.text
 ·have G:Hid (Ep t=false):=by
   unfold Hid;rw[Yb];intro h;have:=(HN.o.1 h).1;rw[J]at this
   cases this
  clear J;rintro e w1 ⟨rfl,E⟩;have j:=Hd E;clear E
  go_wp2
  go_ret
  exact⟨Oz G.o.symm,j.o⟩
 have R:=Hd J;clear J;rintro e w1 ⟨rfl,E⟩;have j:=Hd E;clear E
 rcases hs with hs|hs
 ·have q:((Oo t.sort).toList==[73,110,116])=true:=by rw[Jk,Ov,hs];rfl
  have G:Hid (Ep t=Q.Ol (Oo t.text)):=by
   unfold Hid;rw[J8,HN.o];constructor
   ·rintro⟨-,h|h⟩
    ·exact h.2
    rw[hs]at h;exact absurd h.1 (by decide)
   intro h;exact⟨R.o,.inl ⟨hs,h⟩⟩
  clear hs
  go_wp2_with fail
  refine(Q.Xo (Oo t.text) _ V).mono ?_;generalize Q.Ol (Oo t.text)=B at G ⊢;rintro e w2 ⟨n,a,l,c,rfl,-,hb2⟩;have K:Hid (Up w (w2.alloc (.cells #[.bool n,.slice a l c] 201))):=(j.o.trans (hb2.mono j.o.size)).alloc (Jm j.o.size hb2.size) _;clear hb2
  go_wp2
  go_ret
  exact⟨Oz G.o.symm,K.o⟩
 have q:((Oo t.sort).toList==[73,110,116])=false:=by rw[Jk,Ov,hs];rfl
 have Z:=Hd (Tr hns);have HG:Hid (Ep t=true↔∃x y,Q.P7 (Oo t.text) none x y):=by
  unfold Hid;rw[HN.o];constructor
  ·rintro⟨-,h|⟨-,k2,x,y,b1,hv⟩⟩
   ·rw[hs]at h;exact absurd h.1 (by decide)
   obtain rfl:=Q.Ku Z.o b1;exact⟨x,y,hv⟩
  rintro⟨x,y,hv⟩;exact⟨R.o,.inr ⟨hs,none,x,y,Z.o,hv⟩⟩
 clear hs
 go_wp2_with fail
 refine(Q.Dv (Oo t.text) _ V Z.o (b0.o.bl j.o) (a8.o.bl j.o) (a1.o.bl j.o)).mono ?_;rintro e w2 ⟨z,ok,rfl,⟨b2,Y,-⟩,hb2⟩;have G:Hid (Ep t=ok):=by unfold Hid;rw[J8,HG.o,Y]
 have O:=j.up hb2;clear hb2 Y;obtain⟨s1,p1,l1,c1,s2,p2,l2,c2,rfl⟩:=b2;have K:Hid (Up w (w2.alloc (.cells #[.bool s1,.slice p1 l1 c1,.bool s2,.slice p2 l2 c2] 205))):=O.o.alloc O.o.size _
 go_wp2
 go_ret
 exact⟨Oz G.o.symm,K.o⟩
theorem QU(t:Tm)(vk:Value)(w:World)(htx:t.text.length<=1048576)(hns:Er t.text) :
 Calls prog 69 #[.agg #[.int .i64 t.op,.string (Oo t.sort),.string (Oo t.text),.int .i64 t.a,.int .i64 t.b,vk]] w fun e w'=>e=.returned (.bool (Ep t))/\Up w w':=by
 have E:(Oo t.text).size=t.text.length:=by show t.text.toArray.size=_;simp
 have a1:(Oo t.text).size<=maxLen:=by unfold maxLen;omega
 have HN:Hid (Ep t=true↔Ab t.sort t.text):=Cj t;have O:Hid (Up w (w.alloc (.cells #[.int .i64 t.op,.string (Oo t.sort),.string (Oo t.text),.int .i64 t.a,.int .i64 t.b,vk] 38))):=Oy _ _
 by_cases hl:62<t.text.length
 ·have G:Hid (Ep t=false):=by
   unfold Hid;rw[Yb];intro h;have:=NC (HN.o.1 h);omega
  have z1:decide ((62:Int)<((Oo t.text).size:Int))=true:=by rw[E,Jv];omega
  clear hl E a1
  go_in
  go_wp2
  go_ret
  exact⟨Oz G.o.symm,O.o⟩
 have b4:t.text.length<=62:=by omega
 have z1:decide ((62:Int)<((Oo t.text).size:Int))=false:=by rw[E,J0];omega
 have HL:=Hd b4;have HM:=Hd a1;clear hl b4 E a1 htx
 by_cases K:t.sort=Uu
 ·have q:((Oo t.sort).toList==[73,110,116])=true:=by rw[Jk,Ov,K];rfl
  have HG:Hid (Ep t=(Ea t.text&&Q.Ol (Oo t.text))):=by
   unfold Hid;rw[J8,HN.o,Jw];constructor
   ·rintro⟨h1,h|h⟩
    ·exact⟨h1,h.2⟩
    rw[K]at h;exact absurd h.1 (by decide)
   intro h;exact⟨h.1,.inl ⟨K,h.2⟩⟩
  clear K
  go_in
  go_wp2_with fail
  refine(Q.Ck (Oo t.text) _ HM.o).mono ?_
  cases hi:Q.Ol (Oo t.text)
  ·have G:Hid (Ep t=false):=by unfold Hid;rw[HG.o,hi,Y6]
   clear hi;rintro e w1 ⟨rfl,rfl⟩
   go_wp2
   go_ret
   exact⟨Oz G.o.symm,O.o⟩
  have G:Hid (Ep t=Ea t.text):=by unfold Hid;rw[HG.o,hi,Bool.and_true]
  have J:=Hd (UG hi);have HV:Hid (Q.P7 (Oo t.text) none (Q.G9 (Oo t.text)) 1):=⟨hi,rfl,rfl⟩;clear hi;rintro e w1 ⟨rfl,rfl⟩
  go_wp2_with fail
  refine(Q.Mx (Oo t.text) _ _ _ HM.o J.o HV.o).mono ?_;rintro e w2 ⟨z,rfl,E,hb⟩;have HF:=Hd (D3 _ w2 z t.text none _ _ hb.size E HL.o J.o HV.o);have j:=Hd (O.o.trans (hb.mono O.o.size));obtain⟨p0,pn,pa,pl,pc,q0,qn,qa,ql,qc,rfl,-⟩:=E;clear hb
  go_wp2_with fail
  refine HF.o.mono ?_;rintro e w3 ⟨rfl,hb⟩;have V:=Hd (j.o.trans (hb.mono j.o.size));clear hb
  go_wp2
  go_ret
  exact⟨Oz G.o.symm,V.o⟩
 have q:((Oo t.sort).toList==[73,110,116])=false:=by rw[Jk,Ov,Jc];exact K
 by_cases hr:t.sort=Ui
 ·have q2:((Oo t.sort).toList==[82,101,97,108])=true:=by rw[Jk,Ov,hr];rfl
  have J:=Hd (Tr hns);have HG:Hid (Ep t=true↔Ea t.text=true/\∃x y,Q.P7 (Oo t.text) none x y):=by
   unfold Hid;rw[HN.o];constructor
   ·rintro⟨h1,h|⟨-,k2,x,y,Z,hv⟩⟩
    ·exact absurd h.1 K
    obtain rfl:=Q.Ku J.o Z;exact⟨h1,x,y,hv⟩
   rintro⟨h1,x,y,hv⟩;exact⟨h1,.inr ⟨hr,none,x,y,J.o,hv⟩⟩
  clear K hr
  go_in
  go_wp2_with fail
  refine(Q.Ah (Oo t.text) _ HM.o J.o).mono ?_;rintro e w1 ⟨b,rfl,hR,Y⟩;have HR:Hid (b=true↔∃x y,Q.P7 (Oo t.text) none x y):=by
   obtain⟨k2,Z,h⟩:=hR;obtain rfl:=Q.Ku J.o Z;exact h
  have R:=Hd (O.o.trans (Y.mono O.o.size));have hc:w1.cell? ⟨w.heap.size,2,none⟩=some (.string (Oo t.text)):=by
   have hx:=Oq w [.int .i64 t.op,.string (Oo t.sort),.string (Oo t.text),.int .i64 t.a,.int .i64 t.b,vk] 38;exact(hx.bl hx.lt Y).cell 2
  clear hR Y
  cases b
  ·have G:Hid (Ep t=false):=by
    unfold Hid;rw[Yb];intro h;have:=HR.o.2 (HG.o.1 h).2
    cases this
   go_wp2
   go_ret
   exact⟨Oz G.o.symm,R.o⟩
  have G:Hid (Ep t=Ea t.text):=by
   unfold Hid;rw[J8,HG.o];exact⟨fun h=>h.1,fun h=>⟨h,HR.o.1 rfl⟩⟩
  obtain⟨x,y,hv⟩:=HR.o.1 rfl;have HV:=Hd hv;clear hv
  go_wp2_with fail
  refine(Q.Mx (Oo t.text) x y _ HM.o J.o HV.o).mono ?_;rintro e w2 ⟨z,rfl,E,hb⟩;have HF:=Hd (D3 _ w2 z t.text none x y hb.size E HL.o J.o HV.o);have j:=Hd (R.o.trans (hb.mono R.o.size));obtain⟨p0,pn,pa,pl,pc,q0,qn,qa,ql,qc,rfl,-⟩:=E;clear hb
  go_wp2_with fail
  refine HF.o.mono ?_;rintro e w3 ⟨rfl,hb⟩;have V:=Hd (j.o.trans (hb.mono j.o.size));clear hb
  go_wp2
  go_ret
  exact⟨Oz G.o.symm,V.o⟩
 have q2:((Oo t.sort).toList==[82,101,97,108])=false:=by rw[Jk,Ov,Jc];exact hr
 have G:Hid (Ep t=false):=by
  unfold Hid;rw[Yb];intro h
  rcases(HN.o.1 h).2 with h|h
  ·exact K h.1
  exact hr h.1
 clear K hr
 go_in
 go_wp2
 go_ret
 exact⟨Oz G.o.symm,O.o⟩
theorem B0(vs vf vt:Value)(S:List (List UInt8))(F:List Fn)(w:World)(hS:O4 w vs S)(hF:Em w vf F)(hz:∀s∈S,s.length<=1048576)(hzf:∀f∈F,f.name.length<=1048576/\f.sort.length<=1048576/\∀a∈f.args,a.length<=1048576)(hl:S.length<=1048576)(hfl:F.length<=1048576)(hsh:Ac vs S.length) :
 Calls prog 36 #[.agg #[vs,vf,vt]] w fun e w'=>e=.returned (.bool (E8 S F))/\Up w w':=by
 have HS:=Hd hS;have HF:=Hd hF;have HZ:=Hd hz;have j4:=Hd hzf;have l7:=Hd (hS.bl (Oy w (.cells #[vs,vf,vt] 27)));have l8:=Hd hsh;obtain⟨ps,cs,rfl,s1,s2,s3⟩:=hS;obtain⟨pf,cf,rfl,f1,f2,f3⟩:=hF;have o2:=Hd s3;have h7:=Hd f3;unfold maxLen at s2 f2;clear hz hzf s3 f3;have m6:Hid (Bx (w.alloc (.cells #[.slice ps S.length cs,.slice pf F.length cf,vt] 27)) w.heap.size [.slice ps S.length cs,.slice pf F.length cf,vt]):=Oq w _ _;have h0:Hid (Up w (w.alloc (.cells #[.slice ps S.length cs,.slice pf F.length cf,vt] 27))):=Oy _ _
 by_cases V:¬ (S.length+F.length<=300)
 ·have G:Hid (E8 S F=false):=by unfold Hid E8;rw[Jd V];rfl
  have y:decide ((300:Int)<(S.length:Int)+(F.length:Int))=true:=dT (by omega)
  have y':(300:Int)<(S.length:Int)+(F.length:Int):=by omega
  go_in
  go_wp2
  go_ret
  exact⟨Oz G.o.symm,h0.o⟩
 have V:=Decidable.not_not.1 V;have y':(S.length:Int)+(F.length:Int)<=300:=by omega
 have l3:Hid (S.length<=1000000000):=Jm (by omega:S.length<=300) (by decide)
 have R:Hid (E8 S F=(G0 (S++F.map (·.name))&&F.all (Ub (On S)))):=by unfold Hid E8;rw[Jb V];rfl
 go_in
 go_wp2_with (at_builtin;refine I5 (L:=S) rfl _ _ rfl rfl rfl l7.o l8.o l3.o ?_)
 intro v2 w2 c6 x1 x2 k9 b7;clear k9 x1 x2;have e7:Hid (Below (w.heap.size+1) (w.alloc (.cells #[.slice ps S.length cs,.slice pf F.length cf,vt] 27)) w2):=by
  have h:Below (w.alloc (.cells #[.slice ps S.length cs,.slice pf F.length cf,vt] 27)).heap.size _ _:=b7
  rw[Ju]at h;exact h
 have f5:=Hd c6;have f8:Hid (Bx w2 w.heap.size [.slice ps S.length cs,.slice pf F.length cf,vt]):=m6.o.bl (N:=w.heap.size+1) (by omega) e7.o;have h5:Hid (Up w w2):=h0.o.trans (e7.o.mono (by omega));have d3:Hid (w.heap.size+1<=w2.heap.size):=by have:=b7.size;rw[Ju]at this;exact this
 clear c6 b7;obtain⟨p3,c3,rfl⟩:=V6 f5.o;obtain⟨M,hM⟩:=O2 (F.map (·.name));have d1:Hid (M.length=F.length):=by unfold Hid;rw[<-hM];simp
 have l4:Hid (∀k (h:k<F.length) (h':k<M.length),M[k]=F[k].name):=by
  intro k h h';subst hM;simp
 rw[hM]at R;have HM:=Hd hM;clear hM;obtain⟨N,hN⟩:=O2 (w.heap.size+1);have HN:=Hd hN;rw[hN]at f5 e7 d3;clear hN;have b0:=f8.o.c3.1;have b1:=f8.o.c3.2.1
 go_wp2_with fail
 clear b0 b1
 go_loopw [3,25] (fun v i wr=>∃k:Nat,k<=F.length/\i=.int .i64 (k:Nat)/\wr.ownsRow N 9 1 v (S.length+k) (strsC (S++M.take k))/\Below N w2 wr) (fun _ i _=>F.length - (intOf i).toNat)
 case atStart=>exact⟨0,Jp _,rfl,by simpa using f5.o,Ji _ _⟩
 obtain⟨k,hk,rfl,b9,g2⟩:=hrel;have O:=Hd b9;have a8:=Hd g2;have Z:Hid (Up w wr):=h5.o.trans (g2.mono (by have:=HN.o;omega));obtain⟨p7,c7,rfl⟩:=V6 b9;clear b9 g2
 by_cases J:k<F.length
 ·rcases h7.o with e0|⟨bf,rfl,K,b6⟩
  ·rw[e0]at J;cases J
  obtain⟨k0,⟨va,k1,pa,ca,rfl,j7,n0,-⟩,k2⟩:=b6 k J;have k0:=(Z.o.cell (p:=⟨bf,k*3,none⟩) K).trans k0;have k1:=(Z.o.cell (p:=⟨bf,k*3+1,none⟩) K).trans k1;have k2:=(Z.o.cell (p:=⟨bf,k*3+2,none⟩) K).trans k2;have i0:(0:Int)<=(k:Int):=by omega
  have i1:(k:Int)<(F.length:Int):=by omega
  clear b6;have h8:Hid (M.take (k+1)=M.take k++[F[k].name]):=by
   have h:=d1.o;unfold Hid;rw[Yl (by omega),l4.o k J (by omega)]
  generalize F[k]=x at k0 k1 k2 h8
  go_wp2_with (at_builtin;refine Nt (t:=Oo x.name) (n:=S.length+k) (base:=N) (xs:=strsC (S++M.take k)) rfl _ _ rfl rfl ?own _ rfl ?hH ?hn ?hb ?_)
  case own=>exact O.o.alloc _
  case hH=>rw[Ju]
  case hn=>omega
  case hb=>have:=a8.o.size;have:=d3.o;rw[Ju];omega
  intro g5 c5 w5 c8 e5 j8;have d0:Hid (Below N w2 w5):=Xg (a8.o.alloc (by have:=a8.o.size;have:=d3.o;omega) _) (O.o.alloc _) e5 (by have:=a8.o.size;have:=d3.o;rw[Ju];omega);have l5:Hid (w5.ownsRow N 9 1 (.slice (some ⟨g5,0,none⟩) (S.length+k+1) c5) (S.length+(k+1)) (strsC (S++M.take (k+1)))):=by
   unfold Hid;rw[h8.o,<-Ys];have e:strsC (S++M.take k++[x.name])=strsC (S++M.take k)++[.string (Oo x.name)]:=by simp[strsC]
   rw[e];exact c8
  clear c8 e5 j8
  go_wp2
  go_roundw
  case rel=>exact⟨k+1,by omega,by go_num,l5.o,d0.o⟩
  simp[intOf];omega
 obtain rfl:k=F.length:=by omega
 have e2:Hid (O4 wr (.slice p7 (S.length+F.length) c7) (S++M)):=by
  have h:=O.o;rw[<-d1.o,Y1]at h;rw[<-d1.o];exact Ta h (by simp)
 have j3:Hid (∀s∈S++M,s.length<=1048576):=fun s hs=>by
  rcases Yc.1 hs with h|h
  ·exact HZ.o s h
  rw[<-HM.o]at h;obtain⟨f,hf,rfl⟩:=Yu.1 h;exact(j4.o f hf).1
 obtain⟨E,g1⟩:=O2 (S++M);have a7:Hid (E.length=S.length+F.length):=by unfold Hid;rw[<-g1,Jq,d1.o]
 rw[g1]at e2 R j3;clear g1 J hk O;have d4:Hid (Bx wr w.heap.size [.slice ps S.length cs,.slice pf F.length cf,vt]):=f8.o.bl (N:=N) (by have:=HN.o;omega) a8.o
 go_wp2_with fail
 obtain⟨W4,rfl⟩:∃W4,W4=wr:=⟨_,rfl⟩;have o6:(E.length:Int)=(S.length:Int)+(F.length:Int):=by have:=a7.o;omega
 go_loopw [37] (fun i wq=>∃k:Nat,k<=E.length/\i=.int .i64 (k:Nat)/\(∀j (h:j<E.length),j<k->(K1 E[j]&&!On (E.take j) E[j])=true)/\Up W4 wq) (fun i _=>E.length - (intOf i).toNat)
 case atStart=>exact⟨0,Jp _,rfl,fun j _ h=>absurd h (Jz _),Ji _ _⟩
 obtain⟨k,hk,rfl,hp,d6⟩:=hrel;have HP:=Hd hp;have e9:=Hd d6;have f0:=Z.up d6;have e6:=Hd (e2.o.bl d6);clear hp d6
 by_cases J:k<E.length
 ·obtain⟨bs,rfl,j9⟩:=El e6.o (by omega);have ck:=j9 k J;clear j9;have i0:(0:Int)<=(k:Int):=by omega
  have i1:(k:Int)<(S.length:Int)+(F.length:Int):=by omega
  have i2:k<S.length+F.length:=by omega
  have g3:(Oo E[k]).size<=maxLen:=by
   have:=j3.o _ (Jj J)
   show E[k].toArray.size<=_
   unfold maxLen;simp;omega
  have d2:Hid ((K1 E[k]&&!On (E.take k) E[k])=false->E8 S F=false):=fun h=>by rw[R.o,freshL_no J h];rfl
  have e4:Hid ((K1 E[k]&&!On (E.take k) E[k])=true->∀j (h:j<E.length),j<k+1->(K1 E[j]&&!On (E.take j) E[j])=true):=fun h j hj h2=>by
   rcases J4.1 h2 with h3|rfl
   ·exact HP.o j hj h3
   exact h
  have m5:=Hd (GT e6.o (k:=k) hk);generalize E[k]=s at ck g3 d2 e4
  go_wp2_with fail
  refine(Ka (Oo s) _ g3).mono ?_;rw[Ov]
  cases d9:Kj s
  ·have G:Hid (E8 S F=false):=d2.o (by unfold K1;rw[d9];rfl);clear d9;rintro e w5 ⟨rfl,rfl⟩
   go_wp2
   go_ret
   exact⟨Oz G.o.symm,f0.o⟩
  have l9:=Hd d9;clear d9;rintro e w5 ⟨rfl,rfl⟩
  go_wp2_with fail
  refine(Tk (Oo s) _ g3).mono ?_;rw[Ov]
  cases e1:N7 s
  ·have m0:=Hd e1;clear e1;rintro e w6 ⟨rfl,a1⟩;have h4:=e9.up a1;have b3:Hid (Up w w6):=Z.o.trans (h4.o.mono Z.o.size);have i7:=Hd (m5.o.bl a1);have o7:S.length+F.length<=c7:=by
    obtain⟨p',c',e,h1,h2,_⟩:=e6.o;simp only[Value.slice.injEq]at e;have:=a7.o;omega
   clear a1
   go_wp2_with fail
   refine(Nf _ (E.take k) (Oo s) _ i7.o).mono ?_;rw[Ov]
   cases d7:On (E.take k) s
   ·have HR:=Hd (e4.o (by unfold K1;rw[l9.o,m0.o,d7];rfl));clear d7;rintro e w7 ⟨rfl,rfl⟩
    go_wp2
    go_roundw
    case rel=>exact⟨k+1,by omega,by go_num,HR.o,h4.o⟩
    simp[intOf];omega
   have G:Hid (E8 S F=false):=d2.o (by rw[d7];simp);clear d7;rintro e w7 ⟨rfl,rfl⟩
   go_wp2
   go_ret
   exact⟨Oz G.o.symm,b3.o⟩
  have G:Hid (E8 S F=false):=d2.o (by unfold K1;rw[e1];simp);clear e1;rintro e w6 ⟨rfl,a1⟩;have b3:=f0.up a1;clear a1
  go_wp2
  go_ret
  exact⟨Oz G.o.symm,b3.o⟩
 have h9:Hid (E8 S F=F.all (Ub (On S))):=by
  unfold Hid;rw[R.o,OD (fun i hi=>HP.o i hi (by omega))];rfl
 have n1:=(d4.o.bl d4.o.lt e9.o).c3;obtain⟨b0,b1,b2⟩:=n1;have z3:¬ (k:Int)<(S.length:Int)+(F.length:Int):=by omega
 have z4:¬ k<S.length+F.length:=by omega
 obtain⟨W5,rfl⟩:∃W5,W5=wr:=⟨_,rfl⟩;have j2:Hid (Bx W5 w.heap.size [.slice ps S.length cs,.slice pf F.length cf,vt]):=d4.o.bl d4.o.lt e9.o
 go_wp2_with fail
 clear b0 b1 b2
 go_loopw [60] (fun i wq=>∃m:Nat,m<=F.length/\i=.int .i64 (m:Nat)/\(∀j (h:j<F.length),j<m->Ub (On S) F[j]=true)/\Up W5 wq) (fun i _=>F.length - (intOf i).toNat)
 case atStart=>exact⟨0,Jp _,rfl,fun j _ h=>absurd h (Jz _),Ji _ _⟩
 obtain⟨m,hm,rfl,k7,d5⟩:=hrel;have i6:=Hd k7;have d0:=Hd d5;have q:=f0.up d5;obtain⟨b0,b1,b2⟩:=(j2.o.bl j2.o.lt d5).c3;clear k7 d5
 by_cases b8:m<F.length
 ·rcases h7.o with e0|⟨bf,rfl,K,b6⟩
  ·rw[e0]at b8;cases b8
  obtain⟨k0,⟨va,k1,k8⟩,k2⟩:=b6 m b8;have i8:=Hd (k8.bl q.o);obtain⟨pa,ca,rfl,j7,n0,-⟩:=k8;have k0:=(q.o.cell (p:=⟨bf,m*3,none⟩) K).trans k0;have k1:=(q.o.cell (p:=⟨bf,m*3+1,none⟩) K).trans k1;have k2:=(q.o.cell (p:=⟨bf,m*3+2,none⟩) K).trans k2;have j0:(0:Int)<=(m:Int):=by omega
  have j1:(m:Int)<(F.length:Int):=by omega
  have f9:=Hd (j4.o _ (Jj b8));clear b6;have e3:Hid (Ub (On S) F[m]=false->E8 S F=false):=fun h=>by
   rw[h9.o,Yb];intro h2;have:=Jx.1 h2 _ (Jj b8);rw[h]at this
   cases this
  have b4:Hid (Ub (On S) F[m]=true->∀j (h:j<F.length),j<m+1->Ub (On S) F[j]=true):=fun h j hj h2=>by
   rcases J4.1 h2 with h3|rfl
   ·exact i6.o j hj h3
   exact h
  generalize F[m]=x at k0 k1 k2 i8 f9 e3 b4 j7;have Y:Hid (Up wr (wr.alloc (.cells #[.string (Oo x.name),.slice pa x.args.length ca,.string (Oo x.sort)] 75))):=Oy _ _;have l1:w.heap.size<wr.heap.size:=J3 _ _ b0
  go_wp2_with fail
  refine(Tz _ _ S x _ ((HS.o.bl q.o).bl Y.o) (i8.o.bl Y.o) f9.o.2.2 f9.o.2.1).mono ?_
  cases d8:Ub (On S) x
  ·have G:=Hd (e3.o d8);clear d8;rintro e w8 ⟨rfl,b5⟩;have e8:Hid (Up w w8):=q.o.trans ((Y.o.trans (b5.mono Y.o.size)).mono q.o.size);clear b5
   go_wp2
   go_ret
   exact⟨Oz G.o.symm,e8.o⟩
  have HR:=Hd (b4.o d8);clear d8;rintro e w8 ⟨rfl,b5⟩;have e8:Hid (Up W5 w8):=d0.o.trans ((Y.o.trans (b5.mono Y.o.size)).mono d0.o.size);clear b5
  go_wp2
  go_roundw
  case rel=>exact⟨m+1,by omega,by go_num,HR.o,e8.o⟩
  simp[intOf];omega
 have G:Hid (E8 S F=true):=by
  unfold Hid;rw[h9.o,Jx];intro x hx;obtain⟨j,hj,rfl⟩:=Ya hx;exact i6.o j hj (by omega)
 have z5:¬ (m:Int)<(F.length:Int):=by omega
 go_wp2
 go_ret
 exact⟨Oz G.o.symm,q.o⟩
theorem D6(vs vf vt:Value)(S:List (List UInt8))(num:Tm->Bool)(F:List Fn)(T:List Tm)(w:World)(hS:O4 w vs S)(hF:Em w vf F)(hT:TermsAt w vt T)(hz:∀s∈S,s.length<=1048576)(hzf:∀f∈F,f.name.length<=1048576/\f.sort.length<=1048576/\∀a∈f.args,a.length<=1048576)(hzt:∀t∈T,t.sort.length<=1048576/\t.text.length<=1048576/\t.kids.length<=1048576)(hl:S.length<=1048576)(hfl:F.length<=1048576)(htl:T.length<=1048576)(hvs:Ac vs S.length)
 (hnum:∀t∈T,∀vk w',Up w w'->Calls prog 69 #[.agg #[.int .i64 t.op,.string (Oo t.sort),.string (Oo t.text),.int .i64 t.a,.int .i64 t.b,vk]] w' fun e w''=>e=.returned (.bool (num t))/\Below w'.heap.size w' w'') :
 Calls prog 15 #[.agg #[vs,vf,vt]] w fun e w'=>e=.returned (.bool (Ek S num F T))/\Up w w':=by
 have HS:=Hd hS;have HF:=Hd hF;have HT:=Hd hT;have HZ:=Hd hz;have f5:=Hd hzf;have c8:=Hd hzt;have d9:=Hd hnum;have f1:=Hd hvs;obtain⟨pt,ct,rfl,t1,t2,t3⟩:=hT;have e9:=Hd t3;unfold maxLen at t2;clear hS hF hz hzf hzt hvs hnum t3;have e2:Hid (Bx (w.alloc (.cells #[vs,vf,.slice pt T.length ct] 27)) w.heap.size [vs,vf,.slice pt T.length ct]):=Oq w _ _;have Z:Hid (Up w (w.alloc (.cells #[vs,vf,.slice pt T.length ct] 27))):=Oy _ _
 by_cases h3:¬ (T.length<=3000)
 ·have G:Hid (Ek S num F T=false):=by unfold Hid Ek;rw[Jd h3];rfl
  have y':(3000:Int)<(T.length:Int):=by omega
  go_in
  go_wp2
  go_ret
  exact⟨Oz G.o.symm,Z.o⟩
 have h3:=Decidable.not_not.1 h3;have y':(T.length:Int)<=3000:=by omega
 go_in
 go_wp2_with fail
 refine(B0 vs vf _ S F _ (HS.o.bl Z.o) (HF.o.bl Z.o) HZ.o f5.o hl hfl f1.o).mono ?_
 cases d0:E8 S F
 ·have G:Hid (Ek S num F T=false):=by unfold Hid Ek;rw[d0,Y6,Bool.false_and]
  clear d0;rintro e w2 ⟨rfl,hb2⟩;have a1:=Z.up hb2;clear hb2
  go_wp2
  go_ret
  exact⟨Oz G.o.symm,a1.o⟩
 have e8:=Hd d0;clear d0;rintro e w2 ⟨rfl,hb2⟩;have a1:=Z.up hb2;have b3:=Hd (e2.o.bl e2.o.lt hb2);clear hb2;have b2:=b3.o.c3.2.2
 go_wp2_with fail
 clear b2
 go_loopw [16] (fun i wr=>∃k:Nat,k<=T.length/\i=.int .i64 (k:Nat)/\(∀j (h:j<T.length),j<k->(Us S num F T j T[j]&&decide (Ed (T.take j) T[j]<0))=true)/\Up w2 wr) (fun i _=>T.length - (intOf i).toNat)
 case atStart=>exact⟨0,Jp _,rfl,fun j _ h=>absurd h (Jz _),Ji _ _⟩
 obtain⟨k,hk,rfl,hp,b6⟩:=hrel;have HP:=Hd hp;have e7:=Hd b6;have O:=a1.up b6;obtain⟨b0,b1,b2⟩:=(b3.o.bl b3.o.lt b6).c3;have e3:=Hd (b3.o.bl b3.o.lt b6);clear hp b6
 by_cases b7:k<T.length
 ·rcases e9.o with e0|⟨E,rfl,Y,e5⟩
  ·rw[e0]at b7;cases b7
  obtain⟨c0,c1,c2,c3,c4,va,c5,e6⟩:=e5 k b7;have d2:=Hd e6;obtain⟨pa,ca,rfl,g0,i7,-⟩:=e6;have d8:Hid (∀W,Up w W->W.cell? ⟨E,k*6,none⟩=some (.int .i64 T[k].op)/\W.cell? ⟨E,k*6+1,none⟩=some (.string (Oo T[k].sort))/\W.cell? ⟨E,k*6+2,none⟩=some (.string (Oo T[k].text))/\W.cell? ⟨E,k*6+3,none⟩=some (.int .i64 T[k].a)/\W.cell? ⟨E,k*6+4,none⟩=some (.int .i64 T[k].b)/\W.cell? ⟨E,k*6+5,none⟩=some (.slice pa T[k].kids.length ca)):=fun W h=>
   ⟨(h.cell (p:=⟨E,k*6,none⟩) Y).trans c0,(h.cell (p:=⟨E,k*6+1,none⟩) Y).trans c1,(h.cell (p:=⟨E,k*6+2,none⟩) Y).trans c2,(h.cell (p:=⟨E,k*6+3,none⟩) Y).trans c3,(h.cell (p:=⟨E,k*6+4,none⟩) Y).trans c4,(h.cell (p:=⟨E,k*6+5,none⟩) Y).trans c5⟩
  clear c0 c1 c2 c3 c4 c5 e5;have i0:(0:Int)<=(k:Int):=by omega
  have i1:(k:Int)<(T.length:Int):=by omega
  have i2:(k:Int)<=(ct:Int):=by omega
  have i3:k<=ct:=by omega
  have c6:Hid ((Us S num F T k T[k]&&decide (Ed (T.take k) T[k]<0))=false->Ek S num F T=false):=XB b7;have b4:Hid ((Us S num F T k T[k]&&decide (Ed (T.take k) T[k]<0))=true->∀j (h:j<T.length),j<k+1->(Us S num F T j T[j]&&decide (Ed (T.take j) T[j]<0))=true):=fun h j hj h2=>by
   rcases J4.1 h2 with h3|rfl
   ·exact HP.o j hj h3
   exact h
  have R:=Hd (Jj b7);have f0:Hid (∀W,Up w W->TermsAt W (.slice (some ⟨E,0,none⟩) k ct) (T.take k)):=fun W h=>VR (HT.o.bl h) hk;obtain⟨u,hu⟩:=O2 (T[k]);rw[hu]at d2 g0 d8 c6 b4 R;clear hu;have d1:Hid (∀W,Up w W->Calls prog 37 #[.agg #[vs,vf,.slice (some ⟨E,0,none⟩) T.length ct],.int .i64 (k:Nat),.agg #[.int .i64 u.op,.string (Oo u.sort),.string (Oo u.text),.int .i64 u.a,.int .i64 u.b,.slice pa u.kids.length ca]] W fun e w'=>e=.returned (.bool (Us S num F T k u))/\Up W w'):=fun W h=>
   B1 vs vf _ S num F T k u _ W (HS.o.bl h) (HF.o.bl h) (HT.o.bl h) (d2.o.bl h) hk htl hfl (c8.o u R.o).2.2 (c8.o u R.o).1 (c8.o u R.o).2.1 (fun t ht=>(c8.o t ht).1) (fun W' h'=>d9.o u R.o _ W' (h.trans (h'.mono h.size)))
  have a7:Hid (∀W,Up wr W->W.cell? ⟨w.heap.size,0,none⟩=some vs/\W.cell? ⟨w.heap.size,1,none⟩=some vf/\W.cell? ⟨w.heap.size,2,none⟩=some (.slice (some ⟨E,0,none⟩) T.length ct)/\W.cell? ⟨E,k*6,none⟩=some (.int .i64 u.op)/\W.cell? ⟨E,k*6+1,none⟩=some (.string (Oo u.sort))/\W.cell? ⟨E,k*6+2,none⟩=some (.string (Oo u.text))/\W.cell? ⟨E,k*6+3,none⟩=some (.int .i64 u.a)/\W.cell? ⟨E,k*6+4,none⟩=some (.int .i64 u.b)/\W.cell? ⟨E,k*6+5,none⟩=some (.slice pa u.kids.length ca)):=fun W h=>by
   have h2:=d8.o W (O.o.trans (h.mono O.o.size));have h1:=(e3.o.bl e3.o.lt h).c3;exact⟨h1.1,h1.2.1,h1.2.2,h2⟩
  have e1:Hid (∀W,Up wr W->Calls prog 38 #[.slice (some ⟨E,0,none⟩) k ct,.agg #[.int .i64 u.op,.string (Oo u.sort),.string (Oo u.text),.int .i64 u.a,.int .i64 u.b,.slice pa u.kids.length ca]] W fun e w'=>e=.returned (.int .i64 (Ed (T.take k) u))/\Up W w'):=fun W h=>
   Cf _ _ (T.take k) u W (f0.o W (O.o.trans (h.mono O.o.size))) (d2.o.bl (O.o.trans (h.mono O.o.size)))
  have h8:=a7.o wr (Ji _ _);clear b0 b1 b2
  go_upto_region 6 with fail
  cases b8:Us S num F T k u
  ·have a8:=Hd b8;have G:=Hd (c6.o (by rw[b8];rfl));clear b8
   go_cut [40] (fun s40 wx=>s40=.bool true/\Up wr wx)
   case first=>
    refine Ph 22 rfl (S:=fun W=>W.cell? ⟨w.heap.size,0,none⟩=some vs/\W.cell? ⟨w.heap.size,1,none⟩=some vf/\W.cell? ⟨w.heap.size,2,none⟩=some (.slice (some ⟨E,0,none⟩) T.length ct)/\W.cell? ⟨E,k*6,none⟩=some (.int .i64 u.op)/\W.cell? ⟨E,k*6+1,none⟩=some (.string (Oo u.sort))/\W.cell? ⟨E,k*6+2,none⟩=some (.string (Oo u.text))/\W.cell? ⟨E,k*6+3,none⟩=some (.int .i64 u.a)/\W.cell? ⟨E,k*6+4,none⟩=some (.int .i64 u.b)/\W.cell? ⟨E,k*6+5,none⟩=some (.slice pa u.kids.length ca)) (by kernel_rfl) (a7.o wr.drew (Ji _ _).drew) (fun hHeld=>?_)
    iterate 7 ((first|(refine tkf 21 40 (v:=?_) rfl rfl (by kernel_rfl) (fun _ _ _ h=>h) (Or.inl ⟨by rfl,?_⟩) (by assumption) ?_;rotate_left;(intro w d3;(try dsimp only at d3);go_simp;(try with_reducible rfl))));simp only[Nat.reduceSub,Act.put,Ja,Je,Jf])
    refine wpAnyH_ready (rs:=[7]) (by kernel_rfl) (by simp) ?_;refine AllReadyH.cons rfl (fun K hK=>?_) AllReadyH.nil
    go_simp
    go_at_call 37
    refine(d1.o wr.drew O.o.drew).mono ?_;rw[a8.o];rintro e w6 ⟨rfl,J⟩;have V:Hid (Up wr w6):=⟨J.os,J.tape,J.output,J.size,J.block⟩;clear J
    go_wp2_with fail
    refine hK.out _ _ (a7.o w6 V.o) (fun hHeld2=>?_);clear hK K
    try simp only[Act.put,Ja,Je,Jf]
    iterate 14 ((first|(refine tkf 21 40 (v:=?_) rfl rfl (by kernel_rfl) (fun _ _ _ h=>h) (Or.inl ⟨by rfl,?_⟩) (by assumption) ?_;rotate_left;(intro w d3;(try dsimp only at d3);go_simp;(try with_reducible rfl)))|refine tkf 21 40 (v:=undef) rfl rfl (by kernel_rfl) (fun _ _ _ h=>h) (Or.inr ⟨by rfl,rfl⟩) (by assumption) ?_);simp only[Nat.reduceSub,Act.put,Ja,Je,Jf])
    refine wpAnyH_done (by kernel_rfl) ?_ _
    go_wp2
    go_meet
    exact⟨rfl,V.o⟩
   obtain⟨rfl,b5⟩:=hcut;have b9:=O.up b5;clear b5
   go_wp2
   go_ret
   exact⟨Oz G.o.symm,b9.o⟩
  have a8:=Hd b8;clear b8;obtain⟨q,hq⟩:=O2 (Ed (T.take k) u);rw[hq]at c6 b4 e1;clear hq
  go_cut [40] (fun s40 wx=>s40=.bool (decide (0<=q))/\Up wr wx)
  case first=>
   go_region_held3 (fun W=>W.cell? ⟨w.heap.size,0,none⟩=some vs/\W.cell? ⟨w.heap.size,1,none⟩=some vf/\W.cell? ⟨w.heap.size,2,none⟩=some (.slice (some ⟨E,0,none⟩) T.length ct)/\W.cell? ⟨E,k*6,none⟩=some (.int .i64 u.op)/\W.cell? ⟨E,k*6+1,none⟩=some (.string (Oo u.sort))/\W.cell? ⟨E,k*6+2,none⟩=some (.string (Oo u.text))/\W.cell? ⟨E,k*6+3,none⟩=some (.int .i64 u.a)/\W.cell? ⟨E,k*6+4,none⟩=some (.int .i64 u.b)/\W.cell? ⟨E,k*6+5,none⟩=some (.slice pa u.kids.length ca)) (first
    | assumption|go_keep) (first
    | (go_at_call 37;refine(d1.o wr.drew O.o.drew).mono ?_;rw[a8.o];rintro e w6 ⟨rfl,J⟩;have V:Hid (Up wr w6):=⟨J.os,J.tape,J.output,J.size,J.block⟩;have h9:=a7.o w6 V.o;clear J)
    | (go_at_call 38;refine(e1.o w6 V.o).mono ?_;rintro e w7 ⟨rfl,e4⟩;have d7:=V.up e4;have i6:=a7.o w7 d7.o;clear e4))
   all_goals (go_wp2;go_meet;exact⟨rfl,d7.o⟩)
  obtain⟨rfl,b5⟩:=hcut;have b9:=e7.up b5;clear b5
  by_cases hq:0<=q
  ·have G:=Hd (c6.o (by rw[a8.o,Jd (by omega)];rfl));rw[Jb hq];clear hq
   go_wp2
   go_ret
   exact⟨Oz G.o.symm,a1.o.trans (b9.o.mono a1.o.size)⟩
  have HR:=Hd (b4.o (by rw[a8.o,Jb (by omega)];rfl));rw[Jd hq];clear hq
  go_wp2
  go_roundw
  case rel=>exact⟨k+1,by omega,by go_num,HR.o,b9.o⟩
  simp[intOf];omega
 have G:Hid (Ek S num F T=true):=EH h3 e8.o (fun i hi=>HP.o i hi (by omega));have z5:¬ (k:Int)<(T.length:Int):=by omega
 go_wp2
 go_ret
 exact⟨Oz G.o.symm,O.o⟩
theorem D7(h:BankAt w vs vf vt S F T)(hz:BankZ S F T)(hn:G4 T)(hvs:Ac vs S.length) :
 Calls prog 15 #[.agg #[vs,vf,vt]] w fun e w'=>e=.returned (.bool (Ek S Ep F T))/\Up w w':=
 D6 vs vf vt S Ep F T w h.s h.f h.t hz.s (fun f hf=>⟨(hz.f f hf).1,(hz.f f hf).2.2,(hz.f f hf).2.1⟩) (fun t ht=>⟨(hz.t t ht).1,(hz.t t ht).2.1,(hz.t t ht).2.2.1⟩) hz.ls hz.lf hz.lt hvs (fun t ht vk w' _=>QU t vk w' (hz.t t ht).2.1 (hn t ht))
theorem NJ(hv:Vars w)(hz:BankZ S F T)(hn:G4 T):∀t∈T,t.op=12->((Ou (Oh (Og S)) t.sort).kind=2∨(Ou (Oh (Og S)) t.sort).kind=3)->∀W,Up w W->Calls prog 141 #[.string (Oo t.sort),.string (Oo t.text)] W fun e w'=>e=.returned (.bool (Ep t))/\Up W w':=by
 intro t q _ j W E;have h:=hv.bl E;obtain⟨m,hm⟩:=h.ml;refine Bl t m W ?_ (hz.t t q).2.1 (hn t q) hm h.sp h.ns h.lt
 rcases j with j|j
 ·exact .inl (((ZR _).i _).1 j)
 exact .inr (((ZR _).r _).1 j)
theorem NW(h:BankAt w vs vf vt S F T)(hz:BankZ S F T)(hn:G4 T)(hv:Vars w):Calls prog 56 #[.agg #[vs,vf,vt]] w (Wt S Ep F T w):=by
 obtain⟨q,j,E⟩:=h;have G:=q;have J:=j;have K:=E;obtain⟨O,c1,rfl,-,-,-⟩:=G;obtain⟨R,c2,rfl,-,-,-⟩:=J;obtain⟨V,c3,rfl,-,-,-⟩:=K;exact B8 O R V c1 c2 c3 S Ep F T w q j E hz.ls hz.lf hv.ev hv.rt hz.s hz.f hz.t (NJ hv hz hn)
theorem D5(h:BankAt w vs vf vt S F T)(hz:BankZ S F T)(hn:G4 T)(hv:Vars w) :
 Calls prog 24 #[.agg #[vs,vf,vt]] w fun e w'=>e=.returned (.bool (N4 S Ep F T))/\Up w w':=by
 obtain⟨p1,c1,O,-,-,-⟩:=h.s;obtain⟨p2,c2,R,-,-,-⟩:=h.f;obtain⟨p3,c3,V,-,-,-⟩:=h.t;have j:Hid (Up w (w.alloc (.cells #[vs,vf,vt] 27))):=Oy _ _;have K:=Hd (NW (h.bl j.o) hz hn (hv.bl j.o));subst O R V;clear h hz hv hn
 go_in
 go_wp2_with fail
 refine K.o.mono ?_;rintro e Y (⟨E,rfl,hb⟩|⟨E,kb,sb,Z,tb,gb,n,vS,vF,vT,bF,rfl,-,q⟩)
 ·have J:=Hd E;have G:=j.up hb;clear E hb K
  go_wp2
  go_ret
  exact⟨Oz J.o.symm,G.o⟩
 have J:=Hd E;have G:Hid (Up w Y):=j.o.trans (q.low.mono j.o.size);clear E q K
 go_wp2
 go_ret
 exact⟨Oz J.o.symm,G.o⟩
end Go.Proofs.YtfkagjelljnpdaaGreatDoor
