import Derived.Test.YtfkagjelljnpdaaGreatDoorP39
set_option linter.all false
set_option maxRecDepth 100000
set_option maxHeartbeats 16000000
namespace Go.Proofs.YtfkagjelljnpdaaGreatDoor
open ChangeShapes WideShapes ChangeAt RowKit Proofs.Tryz
variable {B g:Nat}{F:List Fn}{T:List Tm}{w:World}
theorem Kv(w:World):Px w (.slice none 0 0) []:=⟨⟨none,0,rfl,leR,Jp _,.inl rfl⟩,.inl ⟨rfl,rfl⟩⟩
theorem Ig{q:Nat}{L:List (List UInt8)}(h:Tb w q 9 (strsC L))(hg:q≠g)(hl:L.length<=1000):∀W,N9 g B w W->Px W (.slice (some ⟨q,0,none⟩) L.length L.length) L:=fun W hW=>by
 have hx:=(hW.bx h hg (by decide)).bx
 refine⟨⟨_,_,rfl,leR,by unfold maxLen;omega,.inr ⟨q,rfl,hx.lt,fun i hi=>?_⟩⟩,.inr ⟨q,_,rfl⟩⟩
 rw[hx.cell]
 unfold strsC
 rw[Yt,Jg hi]
 rfl
theorem LBk.putS{N mb:Nat}{w0 w1:World}{vf vt:Value}{k m:Nat}(h:LBk g N B mb w0 w (.slice none 0 0) vf vt [] F T k m){Z q c:Nat}{u:List UInt8}(hb:Up w w1)(ho:w1.ownsRow Z 9 1 (.slice (some ⟨q,0,none⟩) 1 c) 1 [.string (Oo u)])(hZ:g<Z)(hu:u.length<=20000) :
 LBk g N B mb (w1.setCell ⟨mb,1,none⟩ (.slice (some ⟨q,0,none⟩) 1 c)) (w1.setCell ⟨mb,1,none⟩ (.slice (some ⟨q,0,none⟩) 1 c)) (.slice (some ⟨q,0,none⟩) 1 c) vf vt [u] F T k m/\N9 g B w (w1.setCell ⟨mb,1,none⟩ (.slice (some ⟨q,0,none⟩) 1 c)):=by
 have j:=h.next hb;have G:N9 g B w1 (w1.setCell ⟨mb,1,none⟩ (.slice (some ⟨q,0,none⟩) 1 c)):=.set h.lo.2.1 (by rw[j.box.ty];decide);have hd:N9 g B w (w1.setCell ⟨mb,1,none⟩ (.slice (some ⟨q,0,none⟩) 1 c)):=(DrX.up hb).trans G;have E:=h.d.trans hd;obtain⟨X,K,O,R⟩:=j.f;obtain⟨Y,V,f2,f3⟩:=j.t;have J:=Uf (i:=1) (u:=.slice (some ⟨q,0,none⟩) 1 c) ho (by rw[j.box.ty];decide:Ix w1 mb≠some 9);refine⟨⟨DrX.refl _ _ _,j.cur.bl ⟨rfl,rfl,rfl,by simp[World.setCell],fun p hp=>Jh _ _ _ _ (by have:=h.lo;show p≠mb;omega)⟩,j.box.set 1 _,⟨h.lo.1,h.lo.2.1,Jm h.lo.2.2 E.size⟩,fun W hW=>?_,⟨X,K,Uf O (by rw[j.box.ty];decide),fun x hx W hW=>R x hx W (E.trans hW)⟩,⟨Y,V,Uf f2 (by rw[j.box.ty];decide),fun x hx W hW=>f3 x hx W (E.trans hW)⟩,⟨by simp,fun s hs=>by rw[J5.1 hs];exact hu,h.db.lf,h.db.f,h.db.lt,h.db.t⟩⟩,hd⟩;exact⟨Rl (L:=[u]) (hW.own J hZ (by decide)),.inr ⟨q,c,rfl⟩⟩
theorem K7{nm so:List UInt8}{ar:List (List UInt8)}(h1:nm.length<=10)(h2:Er nm)(h3:ar.length<=5)(h4:∀a∈ar,a.length<=20000/\a≠Nk)(h5:so.length<=20000/\so≠Nk):FnD ⟨nm,ar,so⟩:=⟨⟨by show nm.length<=_;omega,h2⟩,h3,h4,h5⟩
theorem Kh:(Ok.length<=20000/\Ok≠Nk)/\(([73,110,116]:List UInt8).length<=20000/\([73,110,116]:List UInt8)≠Nk)/\(([85]:List UInt8).length<=20000/\([85]:List UInt8)≠Nk):=by simp[Ok,Nk]
theorem Ro{pf:Option Addr}{n cf:Nat}(h:Em w (.slice pf n cf) F){i:Nat}(hi:i<F.length):∃bf,pf=some ⟨bf,0,none⟩/\w.cell? ⟨bf,i*3,none⟩=some (.string (Oo F[i].name))/\(∃va,w.cell? ⟨bf,i*3+1,none⟩=some va/\O4 w va F[i].args)/\w.cell? ⟨bf,i*3+2,none⟩=some (.string (Oo F[i].sort)):=by
 obtain⟨p,c,e,-,-,j⟩:=h;simp only[Value.slice.injEq]at e;obtain⟨rfl,-,rfl⟩:=e
 rcases j with j|⟨b,rfl,-,q⟩
 ·subst j;exact absurd hi (Jz _)
 exact⟨b,rfl,q i hi⟩
def LI(g N:Nat)(w:World)(e:Ending)(w':World)(K:Nat):Prop:=∃(mb:Nat) (vs vf vt:Value) (S:List (List UInt8)) (F:List Fn) (T:List Tm) (k':Nat),e=.returned (.pointer (some ⟨mb,0,none⟩))/\LBk g N w.heap.size mb w' w' vs vf vt S F T k' 200/\0<T.length/\k'<=K/\N9 g w.heap.size w w'
theorem IW(g N k:Nat)(p:Int)(w:World)(h:Q.Ux g N w k)(hk:k<=100000)(hp:p=1∨p=3∨p=4∨p=7):Calls prog 18 #[.pointer (some ⟨g,0,none⟩),.int .i64 p] w fun e w'=>LI g N w e w' (k+10):=by
 have HC:=Hd h;have c6:Hid (g<w.heap.size):=Jn h.1 h.2.1;have HP:=Hd hp;clear h hp
 go_in
 go_wp2_with fail
 refine(ZZ w).mono ?_;rintro e w1 ⟨q,rfl,hq,i8,e9⟩;obtain⟨W2,f9⟩:∃W,w1.alloc (.cells #[.pointer (some ⟨g,0,none⟩),.slice none 0 0,.slice none 0 0,.slice (some ⟨q,0,none⟩) 2 2] 71)=W:=⟨_,rfl⟩;have hb2:Up w1 W2:=by rw[<-f9];exact Oy _ _
 have j0:Tb W2 w1.heap.size 71 [.pointer (some ⟨g,0,none⟩),.slice none 0 0,.slice none 0 0,.slice (some ⟨q,0,none⟩) 2 2]:=by rw[<-f9];exact Js
 have j1:=VI i8 hb2;have e8:=e9.trans (hb2.mono e9.size);have e4:Hid (LBk g N w.heap.size w1.heap.size W2 W2 (.slice none 0 0) (.slice none 0 0) (.slice (some ⟨q,0,none⟩) 2 2) [] [] [⟨1,Ok,[],0,0,[]⟩,⟨2,Ok,[],0,0,[]⟩] k 2):=
  ⟨DrX.refl _ _ _,HC.o.bl (e8.mono HC.o.2.1),j0,⟨HC.o.2.1,e9.size,Jm e9.size hb2.size⟩,fun W _=>Kv W,⟨[],rfl,K5 _ _ _ _,fun x hx=>absurd hx Yi⟩,
   ⟨[(⟨1,Ok,[],0,0,[]⟩,.slice none 0 0),(⟨2,Ok,[],0,0,[]⟩,.slice none 0 0)],rfl,⟨rfl,.inr ⟨q,2,R0.toArray,rfl,hq,j1,leR,by unfold maxLen;decide,rfl,rfl⟩⟩,fun x hx W _=>by
    rcases Ym.1 hx with rfl|hx
    ·exact Ie W
    rw[J5.1 hx];exact Ie W⟩,
   ⟨by simp,by simp,by simp,by simp,by simp,fun t ht=>by
    rcases Ym.1 ht with rfl|ht
    ·exact Ih (by decide) [] (by simp) (by simp)
    rw[J5.1 ht];exact Ih (by decide) [] (by simp) (by simp)⟩⟩
 have e1:Hid (N9 g w.heap.size w W2):=DrX.up e8;have j9:=Hd f9;clear e9 hb2 i8 j0 j1 e8 f9
 go_wp2_with (rw[j9.o])
 refine(K8 ⟨[112],[],Ok⟩ (.slice none 0 0) e4.o (fun W _=>Kv W) (K7 (by decide) (by simp[Er]) (by decide) (by simp) Kh.1) (by simp)).mono ?_;rintro e w3 ⟨rfl,n2,hl,hd⟩;have e5:=Hd hl.now;have e2:Hid (N9 g w.heap.size w w3):=e1.o.trans hd;clear hl hd
 go_wp2_with fail
 refine(K8 ⟨[113],[],Ok⟩ (.slice none 0 0) e5.o (fun W _=>Kv W) (K7 (by decide) (by simp[Er]) (by decide) (by simp) Kh.1) (by simp)).mono ?_;rintro e w4 ⟨rfl,n4,hl,hd⟩;have e6:=Hd hl.now;have e3:Hid (N9 g w.heap.size w w4):=e2.o.trans hd;clear hl hd
 go_wp2_with fail
 refine(K8 ⟨[114],[],Ok⟩ (.slice none 0 0) e6.o (fun W _=>Kv W) (K7 (by decide) (by simp[Er]) (by decide) (by simp) Kh.1) (by simp)).mono ?_;rintro e w5 ⟨rfl,n5,hl,hd⟩;have R:=Hd hl.now;have b6:Hid (N9 g w.heap.size w w5):=e3.o.trans hd;clear hl hd
 rcases HP.o with rfl|rfl|rfl|rfl
 focus
  go_wp2_with fail
  refine(K8 ⟨[120],[],[73,110,116]⟩ (.slice none 0 0) R.o (fun W _=>Kv W) (K7 (by decide) (by simp[Er]) (by decide) (by simp) Kh.2.1) (by simp)).mono ?_;rintro e w6 ⟨rfl,n6,hl,hd⟩;have V:=Hd hl.now;have Z:Hid (N9 g w.heap.size w w6):=b6.o.trans hd;clear hl hd
  go_wp2_with fail
  refine(K8 ⟨[121],[],[73,110,116]⟩ (.slice none 0 0) V.o (fun W _=>Kv W) (K7 (by decide) (by simp[Er]) (by decide) (by simp) Kh.2.1) (by simp)).mono ?_;rintro e w7 ⟨rfl,j3,hl,hd⟩;have b2:=Hd hl.now;have a8:Hid (N9 g w.heap.size w w7):=Z.o.trans hd;clear hl hd
  go_wp2_with fail
  refine(K8 ⟨[122],[],[73,110,116]⟩ (.slice none 0 0) b2.o (fun W _=>Kv W) (K7 (by decide) (by simp[Er]) (by decide) (by simp) Kh.2.1) (by simp)).mono ?_;rintro e w8 ⟨rfl,h1,hl,hd⟩;have b3:=Hd hl.now;have b0:Hid (N9 g w.heap.size w w8):=a8.o.trans hd;clear hl hd;obtain⟨f1,h2,SE,FE,kE,b4,g0⟩:∃vs vf S F k',LBk g N w.heap.size w1.heap.size _ _ vs vf (.slice (some ⟨q,0,none⟩) 2 2) S F [⟨1,Ok,[],0,0,[]⟩,⟨2,Ok,[],0,0,[]⟩] k' 2/\k'<=k+4:=⟨_,_,_,_,_,b3.o,by omega⟩;have d6:=Hd b4;have f5:=b0;clear b4 e4 e5 e6 R V b2 b3 e1 e2 e3 b6 Z a8 b0
 rotate_left
 focus
  have h0:Hid (w.heap.size<=w5.heap.size):=b6.o.size;obtain⟨c0,c1,c2,c3⟩:=R.o.cells
  go_wp2_with (at_builtin;refine Nt (t:=⟨#[85]⟩) (base:=w.heap.size) (n:=0) (xs:=[]) rfl _ _ rfl rfl (K5 _ _ _ _) _ rfl rfl (by decide) h0.o ?_)
  intro gs cs Ws f0 a1 _;have E:=Oy w5 (.cells #[.string (Oo [85])] 9);have b9:Up w5 Ws:=E.trans ⟨a1.os,a1.tape,a1.output,a1.size,fun b hb=>a1.block b (Jn hb E.size) (fun e=>by cases e)⟩;have Y:=R.o.putS (u:=[85]) b9 f0 c6.o (by decide);obtain⟨d0,d1,d2,d3⟩:=(R.o.next b9).cells;have d4:=(R.o.next b9).box.bx.fz 1;obtain⟨W6,d8⟩:∃W,Ws.setCell ⟨w1.heap.size,1,none⟩ (.slice (some ⟨gs,0,none⟩) 1 cs)=W:=⟨_,rfl⟩;rw[d8]at Y;have V:=Hd Y.1;have Z:Hid (N9 g w.heap.size w W6):=b6.o.trans Y.2;have g6:=Hd d8;clear f0 a1 E b9 Y d8 c0 c1 c2 c3
  go_upto_region 18 with fail
  rw[g6.o];clear d0 d1 d2 d3 d4
  go_wp2_with fail
  refine(K8 ⟨[97],[],[85]⟩ (.slice none 0 0) V.o (fun W _=>Kv W) (K7 (by decide) (by simp[Er]) (by decide) (by simp) Kh.2.2) (by simp)).mono ?_;rintro e w7 ⟨rfl,j3,hl,hd⟩;have b2:=Hd hl.now;have a8:Hid (N9 g w.heap.size w w7):=Z.o.trans hd;clear hl hd
  go_wp2_with fail
  refine(K8 ⟨[98],[],[85]⟩ (.slice none 0 0) b2.o (fun W _=>Kv W) (K7 (by decide) (by simp[Er]) (by decide) (by simp) Kh.2.2) (by simp)).mono ?_;rintro e w8 ⟨rfl,h1,hl,hd⟩;have b3:=Hd hl.now;have b0:Hid (N9 g w.heap.size w w8):=a8.o.trans hd;clear hl hd
  go_wp2_with fail
  refine(K8 ⟨[100],[],[85]⟩ (.slice none 0 0) b3.o (fun W _=>Kv W) (K7 (by decide) (by simp[Er]) (by decide) (by simp) Kh.2.2) (by simp)).mono ?_;rintro e w9 ⟨rfl,j4,hl,hd⟩;have d5:=Hd hl.now;have b1:Hid (N9 g w.heap.size w w9):=b0.o.trans hd;clear hl hd
  go_wp2_with fail
  have E:=Oy w9 (.cells (strsC [[85]]).toArray 9);have J:Tb (w9.alloc (.cells (strsC [[85]]).toArray 9)) w9.heap.size 9 (strsC [[85]]):=Js;have G:w9.heap.size≠g:=by have:=b1.o.size;have:=c6.o;omega
  refine(K8 ⟨[102],[[85]],[85]⟩ (.slice (some ⟨w9.heap.size,0,none⟩) 1 1) (d5.o.next E).now (Ig J G (by simp)) (K7 (by decide) (by simp[Er]) (by simp) (fun a ha=>by rw[J5.1 ha];exact Kh.2.2) Kh.2.2) (by simp)).mono ?_;rintro e w10 ⟨rfl,g3,hl,hd⟩;have a7:=Hd hl.now;have O:Hid (N9 g w.heap.size w w10):=(b1.o.trans (.up E)).trans hd;clear hl hd E J G
  go_wp2_with fail
  have E:=Oy w10 (.cells (strsC [[85],[85]]).toArray 9);have J:Tb (w10.alloc (.cells (strsC [[85],[85]]).toArray 9)) w10.heap.size 9 (strsC [[85],[85]]):=Js;have G:w10.heap.size≠g:=by have:=O.o.size;have:=c6.o;omega
  refine(K8 ⟨[103],[[85],[85]],[85]⟩ (.slice (some ⟨w10.heap.size,0,none⟩) 2 2) (a7.o.next E).now (Ig J G (by simp)) (K7 (by decide) (by simp[Er]) (by simp) (fun a ha=>by rcases Ym.1 ha with rfl|ha;exact Kh.2.2;rw[J5.1 ha];exact Kh.2.2) Kh.2.2) (by simp)).mono ?_;rintro e d7 ⟨rfl,j2,hl,hd⟩;have c8:=Hd hl.now;have b7:Hid (N9 g w.heap.size w d7):=(O.o.trans (.up E)).trans hd;clear hl hd E J G
  go_wp2_with fail
  have E:=Oy d7 (.cells (strsC [[85]]).toArray 9);have J:Tb (d7.alloc (.cells (strsC [[85]]).toArray 9)) d7.heap.size 9 (strsC [[85]]):=Js;have G:d7.heap.size≠g:=by have:=b7.o.size;have:=c6.o;omega
  refine(K8 ⟨[104,97,115],[[85]],Ok⟩ (.slice (some ⟨d7.heap.size,0,none⟩) 1 1) (c8.o.next E).now (Ig J G (by simp)) (K7 (by decide) (by simp[Er]) (by simp) (fun a ha=>by rw[J5.1 ha];exact Kh.2.2) Kh.1) (by simp)).mono ?_;rintro e l6 ⟨rfl,l8,hl,hd⟩;have g2:=Hd hl.now;have g1:Hid (N9 g w.heap.size w l6):=(b7.o.trans (.up E)).trans hd;clear hl hd E J G;obtain⟨f1,h2,SE,FE,kE,b4,g0⟩:∃vs vf S F k',LBk g N w.heap.size w1.heap.size _ _ vs vf (.slice (some ⟨q,0,none⟩) 2 2) S F [⟨1,Ok,[],0,0,[]⟩,⟨2,Ok,[],0,0,[]⟩] k' 2/\k'<=k+4:=⟨_,_,_,_,_,g2.o,by omega⟩;have d6:=Hd b4;have f5:=g1;clear b4 e4 e5 e6 R V b2 b3 d5 a7 c8 g2 e1 e2 e3 b6 Z a8 b0 b1 O b7 g1
 rotate_left
 focus
  go_wp2_with fail
  refine(Q.Oj g N k 4 _ R.o.cur (by omega) (by decide) (by decide)).mono ?_;rintro e w6 ⟨r,k1,rfl,hr,m8,hc,g9⟩;have V:=Hd (R.o.up g9 hc).now;have Z:Hid (N9 g w.heap.size w w6):=b6.o.trans (.bar g9);clear hc g9
  go_wp2_with fail
  refine(NZ _ w6 (by omega) (by omega)).mono ?_;rintro e w7 ⟨so,rfl,i7,g8⟩;have b2:=Hd (V.o.next g8).now;have a8:Hid (N9 g w.heap.size w w7):=Z.o.trans (.up g8);have f8:=Hd i7;clear g8 i7
  go_wp2_with fail
  refine(K8 ⟨[115],[],so⟩ (.slice none 0 0) b2.o (fun W _=>Kv W) (K7 (by decide) (by simp[Er]) (by decide) (by simp) f8.o) (by simp)).mono ?_;rintro e w8 ⟨rfl,h1,hl,hd⟩;have b3:=Hd hl.now;have b0:Hid (N9 g w.heap.size w w8):=a8.o.trans hd;clear hl hd
  go_wp2_with fail
  refine(K8 ⟨[116],[],so⟩ (.slice none 0 0) b3.o (fun W _=>Kv W) (K7 (by decide) (by simp[Er]) (by decide) (by simp) f8.o) (by simp)).mono ?_;rintro e w9 ⟨rfl,j4,hl,hd⟩;have d5:=Hd hl.now;have b1:Hid (N9 g w.heap.size w w9):=b0.o.trans hd;clear hl hd
  go_wp2_with fail
  have E:=Oy w9 (.cells (strsC [so]).toArray 9);have J:Tb (w9.alloc (.cells (strsC [so]).toArray 9)) w9.heap.size 9 (strsC [so]):=Js;have G:w9.heap.size≠g:=by have:=b1.o.size;have:=c6.o;omega
  refine(K8 ⟨[104],[so],so⟩ (.slice (some ⟨w9.heap.size,0,none⟩) 1 1) (d5.o.next E).now (Ig J G (by simp)) (K7 (by decide) (by simp[Er]) (by simp) (fun a ha=>by rw[J5.1 ha];exact f8.o) f8.o) (by simp)).mono ?_;rintro e w10 ⟨rfl,g3,hl,hd⟩;have a7:=Hd hl.now;have O:Hid (N9 g w.heap.size w w10):=(b1.o.trans (.up E)).trans hd;clear hl hd E J G;obtain⟨f1,h2,SE,FE,kE,b4,g0⟩:∃vs vf S F k',LBk g N w.heap.size w1.heap.size _ _ vs vf (.slice (some ⟨q,0,none⟩) 2 2) S F [⟨1,Ok,[],0,0,[]⟩,⟨2,Ok,[],0,0,[]⟩] k' 2/\k'<=k+4:=⟨_,_,_,_,_,a7.o,by omega⟩;have d6:=Hd b4;have f5:=O;clear b4 e4 e5 e6 R V b2 b3 d5 a7 e1 e2 e3 b6 Z a8 b0 b1 O
 rotate_left
 focus
  have h0:Hid (w.heap.size<=w5.heap.size):=b6.o.size;obtain⟨c0,c1,c2,c3⟩:=R.o.cells
  go_wp2_with (at_builtin;refine Nt (t:=⟨#[85]⟩) (base:=w.heap.size) (n:=0) (xs:=[]) rfl _ _ rfl rfl (K5 _ _ _ _) _ rfl rfl (by decide) h0.o ?_)
  intro gs cs Ws f0 a1 _;have E:=Oy w5 (.cells #[.string (Oo [85])] 9);have b9:Up w5 Ws:=E.trans ⟨a1.os,a1.tape,a1.output,a1.size,fun b hb=>a1.block b (Jn hb E.size) (fun e=>by cases e)⟩;have Y:=R.o.putS (u:=[85]) b9 f0 c6.o (by decide);obtain⟨d0,d1,d2,d3⟩:=(R.o.next b9).cells;have d4:=(R.o.next b9).box.bx.fz 1;obtain⟨W6,d8⟩:∃W,Ws.setCell ⟨w1.heap.size,1,none⟩ (.slice (some ⟨gs,0,none⟩) 1 cs)=W:=⟨_,rfl⟩;rw[d8]at Y;have V:=Hd Y.1;have Z:Hid (N9 g w.heap.size w W6):=b6.o.trans Y.2;have g6:=Hd d8;clear f0 a1 E b9 Y d8 c0 c1 c2 c3
  go_upto_region 47 with fail
  rw[g6.o];clear d0 d1 d2 d3 d4
  go_wp2_with fail
  refine(K8 ⟨[97],[],[85]⟩ (.slice none 0 0) V.o (fun W _=>Kv W) (K7 (by decide) (by simp[Er]) (by decide) (by simp) Kh.2.2) (by simp)).mono ?_;rintro e w7 ⟨rfl,j3,hl,hd⟩;have b2:=Hd hl.now;have a8:Hid (N9 g w.heap.size w w7):=Z.o.trans hd;clear hl hd
  go_wp2_with fail
  refine(K8 ⟨[98],[],[85]⟩ (.slice none 0 0) b2.o (fun W _=>Kv W) (K7 (by decide) (by simp[Er]) (by decide) (by simp) Kh.2.2) (by simp)).mono ?_;rintro e w8 ⟨rfl,h1,hl,hd⟩;have b3:=Hd hl.now;have b0:Hid (N9 g w.heap.size w w8):=a8.o.trans hd;clear hl hd
  go_wp2_with fail
  refine(K8 ⟨[120],[],[73,110,116]⟩ (.slice none 0 0) b3.o (fun W _=>Kv W) (K7 (by decide) (by simp[Er]) (by decide) (by simp) Kh.2.1) (by simp)).mono ?_;rintro e w9 ⟨rfl,j4,hl,hd⟩;have d5:=Hd hl.now;have b1:Hid (N9 g w.heap.size w w9):=b0.o.trans hd;clear hl hd
  go_wp2_with fail
  have E:=Oy w9 (.cells (strsC [[73,110,116]]).toArray 9);have J:Tb (w9.alloc (.cells (strsC [[73,110,116]]).toArray 9)) w9.heap.size 9 (strsC [[73,110,116]]):=Js;have G:w9.heap.size≠g:=by have:=b1.o.size;have:=c6.o;omega
  refine(K8 ⟨[107],[[73,110,116]],[85]⟩ (.slice (some ⟨w9.heap.size,0,none⟩) 1 1) (d5.o.next E).now (Ig J G (by simp)) (K7 (by decide) (by simp[Er]) (by simp) (fun a ha=>by rw[J5.1 ha];exact Kh.2.1) Kh.2.2) (by simp)).mono ?_;rintro e w10 ⟨rfl,g3,hl,hd⟩;have a7:=Hd hl.now;have O:Hid (N9 g w.heap.size w w10):=(b1.o.trans (.up E)).trans hd;clear hl hd E J G
  go_wp2_with fail
  have E:=Oy w10 (.cells (strsC [[85]]).toArray 9);have J:Tb (w10.alloc (.cells (strsC [[85]]).toArray 9)) w10.heap.size 9 (strsC [[85]]):=Js;have G:w10.heap.size≠g:=by have:=O.o.size;have:=c6.o;omega
  refine(K8 ⟨[108],[[85]],[73,110,116]⟩ (.slice (some ⟨w10.heap.size,0,none⟩) 1 1) (a7.o.next E).now (Ig J G (by simp)) (K7 (by decide) (by simp[Er]) (by simp) (fun a ha=>by rw[J5.1 ha];exact Kh.2.2) Kh.2.1) (by simp)).mono ?_;rintro e d7 ⟨rfl,j2,hl,hd⟩;have c8:=Hd hl.now;have b7:Hid (N9 g w.heap.size w d7):=(O.o.trans (.up E)).trans hd;clear hl hd E J G;obtain⟨f1,h2,SE,FE,kE,b4,g0⟩:∃vs vf S F k',LBk g N w.heap.size w1.heap.size _ _ vs vf (.slice (some ⟨q,0,none⟩) 2 2) S F [⟨1,Ok,[],0,0,[]⟩,⟨2,Ok,[],0,0,[]⟩] k' 2/\k'<=k+4:=⟨_,_,_,_,_,c8.o,by omega⟩;have d6:=Hd b4;have f5:=b7;clear b4 e4 e5 e6 R V b2 b3 d5 a7 c8 e1 e2 e3 b6 Z a8 b0 b1 O b7
 rotate_left
 all_goals
  obtain⟨c0,c1,c2,c3⟩:=d6.o.cells;obtain⟨pf,cf,rfl,-,-,-⟩:=d6.o.funs;have m6:FE.length<=100:=d6.o.db.lf;have h3:=Hd d6.o.db.f
  go_wp2_with fail
  clear c0 c1 c2 c3
  go_loopw [9,167] (fun _ iv wr=>∃(i k5:Nat) (vt5:Value) (T5:List Tm),i<=FE.length/\iv=.int .i64 (i:Nat)/\LBk g N w.heap.size w1.heap.size wr wr f1 (.slice pf FE.length cf) vt5 SE FE T5 k5 (2+i)/\0<T5.length/\k5<=k+4/\N9 g w.heap.size w wr) (fun _ iv _=>FE.length - (intOf iv).toNat)
  case atStart=>exact⟨0,kE,_,_,Jp _,rfl,d6.o,Nat.succ_pos _,g0,f5.o⟩
  rename World=>wr
  obtain⟨i,k5,vt5,T5,hi,rfl,hl,h9,l3,hd⟩:=hrel;have e7:=Hd hl;have g5:=Hd hd;clear hl hd
  by_cases d9:i<FE.length
  ·have z1:decide ((i:Int)<(FE.length:Int))=true:=Jb (by omega);have z2:decide (i<FE.length)=true:=Jb d9;have i1:(i:Int)<(FE.length:Int):=by omega
   obtain⟨bf,rfl,t0,⟨va,t1,l4⟩,t2⟩:=Ro e7.o.funs d9;obtain⟨pa,ca,rfl,-,-,-⟩:=l4;have h4:=Hd (h3.o _ (Jj d9));have j8:Hid (∀W k' vt' T' m',LBk g N w.heap.size w1.heap.size wr W f1 (.slice (some ⟨bf,0,none⟩) FE.length cf) vt' SE FE T' k' m'->W.cell? ⟨w1.heap.size,2,none⟩=some (.slice (some ⟨bf,0,none⟩) FE.length cf)/\W.cell? ⟨bf,i*3,none⟩=some (.string (Oo FE[i].name))/\W.cell? ⟨bf,i*3+2,none⟩=some (.string (Oo FE[i].sort))):=fun W k' vt' T' m' hW=>by
    obtain⟨b',e,s0,-,s2⟩:=Ro hW.funs d9;simp only[Option.some.injEq,Addr.mk.injEq]at e;rw[e.1];exact⟨hW.cells.2.2.1.trans (by rw[e.1]),s0,s2⟩
   obtain⟨c0,c1,c2,c3⟩:=e7.o.cells;generalize FE[i]=f at *
   by_cases ha:f.args.length=0
   ·have y1:((f.args.length:Int)==0)=true:=by rw[J2];omega
    have g4:=Hd (Dp ⟨11,f.sort,f.name,0,0,[]⟩ (.slice none 0 0) (e7.o.next (Ji _ _).drew) (fun W _=>Ie W) ⟨by simp,by simp,by simp,h4.o.so,h4.o.nm,by simp,by simp⟩ (by omega));unfold G6 at g4
    go_wp2_with fail
    refine Ph 21 rfl (S:=fun W=>W.cell? ⟨w1.heap.size,2,none⟩=some (.slice (some ⟨bf,0,none⟩) FE.length cf)/\W.cell? ⟨bf,i*3,none⟩=some (.string (Oo f.name))/\W.cell? ⟨bf,i*3+2,none⟩=some (.string (Oo f.sort))) (by kernel_rfl) (⟨c2,t0,t2⟩) (fun hHeld=>?_)
    iterate 20 (refine tkf 20 201 (v:=?_) rfl rfl (by kernel_rfl) (fun _ _ _ h=>h) (.inl ⟨by rfl,?_⟩) (by assumption) ?_;rotate_left;(intro w l2;(try dsimp only at l2);go_simp;(try with_reducible rfl));try simp only[Act.put,Ja,Je,Jf])
    refine wpAnyH_ready (rs:=[20]) (by kernel_rfl) (by simp) ?_;refine AllReadyH.cons rfl (fun K hK=>?_) AllReadyH.nil
    go_simp
    go_at_call 46
    refine g4.o.mono ?_;rintro e w5 ⟨j,k6,l5,T6,rfl,⟨-,-,m7,m9⟩,i6,e0⟩;have V:=Hd i6;have Z:Hid (N9 g w.heap.size w w5):=g5.o.trans (DrX.f ⟨e0.os,e0.tape,e0.output,e0.size,e0.block⟩);clear i6 e0
    go_wp2_with fail
    refine hK.out _ _ (j8.o w5 _ _ _ _ V.o) (fun hHeld20=>?_);clear hK K
    try simp only[Act.put,Ja,Je,Jf]
    refine wpAnyH_done (by kernel_rfl) ?_ _;clear hHeld hHeld20 c0 c1 c2 c3 t0 t1 t2 g4
    go_wp2
    go_roundw
    case rel=>exact⟨i+1,k6,l5,T6,d9,by go_num,V.o.now,by omega,by omega,Z.o⟩
    simp[intOf];omega
   have y1:((f.args.length:Int)==0)=false:=by rw[Jc];omega
   go_wp2
   go_roundw
   case rel=>exact⟨i+1,k5,vt5,T5,d9,by go_num,e7.o.more (by omega),h9,l3,g5.o⟩
   simp[intOf];omega
  have z1:decide ((i:Int)<(FE.length:Int))=false:=Jd (by omega);have z2:decide (i<FE.length)=false:=Jd d9;have HR:Hid (LI g N w (.returned (.pointer (some ⟨w1.heap.size,0,none⟩))) wr (k+10)):=⟨_,_,_,_,_,_,_,k5,rfl,e7.o.more (by omega),h9,by omega,g5.o⟩
  go_wp2
  go_ret
  exact HR.o
def N3(f:Int×Bool):List Value:=[.int .i64 f.1,.bool f.2]
theorem YO:(prog.info? 36).map (fun i=>(i.zero,i.size,i.bytes))=some (some (.agg #[.int .i64 0,.bool false]),2,16):=by kernel_rfl
theorem Mz:∃i:TypeInfo,prog.info? 36=some i/\i.zero=some (.agg #[.int .i64 0,.bool false])/\i.size=2/\i.bytes=16:=info_parts YO
theorem VE{ops:Array Oper}{o:Oper}{a:Act}{K:Act->World->Prop}{Q:Exit->Act->World->Prop}{E:Prop}{W:World}{B base n:Nat}{v:Value}{xs:List Value}{x:Int×Bool}{fr:Nat×Nat}(hgd:o.guard=none)(s y:Operand)
 (ho:o.op=.call { callee:=.builtin .append,args:=#[s,y],argTypes:=#[28,28] }) (hs:a.eval s=v) (hown:W.ownsRow base 36 2 v n xs)
 (hx:a.eval y=.slice (some ⟨B,0,none⟩) 1 1) (hB:W.heap[B]? = some (.cells (N3 x).toArray 36 fr)) (hn:n<=1000000000) (hbase:base<=W.heap.size)
 (h:∀g cap W',W'.ownsRow base 36 2 (.slice (some ⟨g,0,none⟩) (n+1) cap) (n+1) (xs++N3 x)->W.grownBy W' v.ownBlock->K (a.put o.dst (.slice (some ⟨g,0,none⟩) (n+1) cap)) W') :
 if Region.wanted o (yielded ops a.tmps)=true then Oper.wp prog o a W K Q else E:=by
 obtain⟨i0,j,q,G,J⟩:=Mz;refine step_append_lies _ hgd s y 28 ho base 36 i0 _ 2 16 underlying28 j q G J rfl (by decide) v n xs hs hown ⟨B,0,none⟩ 1 1 (N3 x) hx rfl
  (World.news_of_block hB) (fun u hu=>by simp only[N3,Ym,Yi,or_false]at hu;rcases hu with rfl|rfl<;>rfl) (by decide) (by unfold maxLen;omega) (by omega) hbase _ rfl ?_
 intro g cap W' O R V _;exact h g cap W' O R
theorem D1{base:Nat}{v:Value}{L:List (Int×Bool)}(h:w.ownsRow base 36 2 v L.length (L.flatMap N3)):FactsAt w v L:=by
 obtain⟨p,c,rfl,E,G,j⟩:=Kp h;refine⟨p,c,rfl,E,G,?_⟩
 rcases j with j|⟨g,rfl,J⟩
 ·exact .inl (Jt j)
 refine .inr ⟨g,rfl,J,fun i hi=>?_⟩;have q:∀d (u:Value),d<2->(N3 L[i])[d]? = some u->w.cell? ⟨g,i*2+d,none⟩=some u:=fun d u hd hu=>Ey h (by rw[Ng (k:=2) (fun _=>rfl) L i d hi hd];exact hu);exact⟨q 0 _ (by decide) rfl,q 1 _ (by decide) rfl⟩
theorem LBk.termsBar{N mb:Nat}{w0:World}{vs vf vt:Value}{S:List (List UInt8)}{k m:Nat}(h:LBk g N B mb w0 w vs vf vt S F T k m):∀W,Q.Bar g w W->TermsAt W vt T:=fun W hb=>by
 obtain⟨X,rfl,J,V⟩:=h.t
 have Y:=h.gB
 have E:W.ownsRow B 38 6 vt (X.map Prod.fst).length (X.flatMap O5):=own_other' J fun q hq=>hb.block q (J.lt q hq).2 (by have:=Oe J q hq;omega)
 have hd:N9 g B w0 W:=h.d.trans (.bar hb)
 obtain⟨p,c,rfl,O,R,K⟩:=Kp E
 refine⟨p,c,rfl,O,R,?_⟩
 rcases K with K|⟨q,rfl,hq⟩
 ·exact .inl (Jt K)
 refine .inr ⟨q,rfl,hq,fun i hi=>?_⟩
 have G:i<X.length:=by simpa using hi
 have j:∀d (u:Value),d<6->(O5 X[i])[d]? = some u->W.cell? ⟨q,i*6+d,none⟩=some u:=fun d u hd hu=>Ey E (by rw[Ng (k:=6) (fun _=>rfl) X i d G hd];exact hu)
 rw[Yh]
 exact⟨j 0 _ (by decide) rfl,j 1 _ (by decide) rfl,j 2 _ (by decide) rfl,j 3 _ (by decide) rfl,j 4 _ (by decide) rfl,_,j 5 _ (by decide) rfl,(V _ (Jj G) W hd).1⟩
theorem Fa{v:Value}(h:TermsAt w v T){i:Nat}(hi:i<T.length):∃bt c p n d,v=.slice (some ⟨bt,0,none⟩) T.length c/\bt<w.heap.size/\w.cell? ⟨bt,i*6,none⟩=some (.int .i64 T[i].op)/\w.cell? ⟨bt,i*6+1,none⟩=some (.string (Oo T[i].sort))/\w.cell? ⟨bt,i*6+2,none⟩=some (.string (Oo T[i].text))/\w.cell? ⟨bt,i*6+3,none⟩=some (.int .i64 T[i].a)/\w.cell? ⟨bt,i*6+4,none⟩=some (.int .i64 T[i].b)/\w.cell? ⟨bt,i*6+5,none⟩=some (.slice p n d)/\n=T[i].kids.length/\IntsAt w (.slice p n d) T[i].kids:=by
 obtain⟨p,c,rfl,-,-,j⟩:=h
 rcases j with j|⟨b,rfl,hb,J⟩
 ·subst j;exact absurd hi (Jz _)
 obtain⟨a0,G,a2,a3,a4,va,a5,E⟩:=J i hi;obtain⟨q,d,e,-,-,-⟩:=id E;subst e;exact⟨b,c,q,_,d,rfl,hb,a0,G,a2,a3,a4,a5,rfl,E⟩
def FU(g N:Nat)(w:World)(n:Nat)(e:Ending)(w':World)(M K:Nat):Prop:=∃(v:Value) (L:List (Int×Bool)) (k':Nat),e=.returned v/\L.length<=M/\(∀f∈L,0<=f.1/\f.1<(n:Int))/\w'.ownsRow w.heap.size 36 2 v L.length (L.flatMap N3)/\k'<=K/\Q.Ux g N w' k'/\Q.Bar g w w'
theorem XP(g N k mo:Nat)(vs vf vt:Value)(T:List Tm)(w:World)(h:Q.Ux g N w k)(hk:k<=100000000)(hmo:mo<=100)(hT:T.length<=60000)(ht:∀W,Q.Bar g w W->TermsAt W vt T)(hvs:∃p n c,vs=.slice p n c)(hvf:∃p n c,vf=.slice p n c) :
 Calls prog 22 #[.pointer (some ⟨g,0,none⟩),.agg #[vs,vf,vt],.int .i64 (mo:Nat)] w fun e w'=>FU g N w T.length e w' mo (k+200000):=by
 obtain⟨W0,d7⟩:∃W,w.alloc (.cells #[vs,vf,vt] 27)=W:=⟨_,rfl⟩;have e4:Up w W0:=by rw[<-d7];exact Oy _ _
 have f0:Bx W0 w.heap.size [vs,vf,vt]:=by rw[<-d7];exact Oq _ _ _
 have R:Hid (g<w.heap.size):=Jn h.1 h.2.1;have g8:Hid (N<=w.heap.size):=h.2.1;have j7:Hid (Q.Bar g w W0):=.of e4;have k1:=Hd (h.bl (e4.mono h.2.1));have l7:=Hd f0;have l5:=Hd d7;have HT:=Hd ht;obtain⟨ps,ns,cs,rfl⟩:=hvs;obtain⟨pf,nf,cf,rfl⟩:=hvf;obtain⟨pt,ct,rfl,-,-,-⟩:=ht w (Q.Bar.refl _ _);clear h ht d7
 go_in
 obtain⟨c0,c1,c2⟩:=f0.c3;clear f0 e4
 go_upto_region 1 with fail
 rw[l5.o]
 go_wp2_with fail
 clear c0 c1 c2
 go_loopw [7,8,9,15] (fun v _ _ iv wr=>∃(i k5:Nat) (M:List Nat),i<=T.length/\iv=.int .i64 (i:Nat)/\M.length<=i/\(∀x∈M,x<T.length)/\k5<=k+2*i/\wr.ownsRow (w.heap.size+1) 3 1 v M.length (labV M)/\Q.Ux g N wr k5/\Q.Bar g w wr/\Bx wr w.heap.size [.slice ps ns cs,.slice pf nf cf,.slice pt T.length ct]) (fun _ _ _ iv _=>T.length - (intOf iv).toNat)
 case atStart=>exact⟨0,k,[],Jp _,rfl,leR,fun x hx=>absurd hx Yi,leR,K5 _ _ _ _,k1.o,j7.o,l7.o⟩
 rename World=>wr
 obtain⟨i,k5,M,hi,rfl,hM,h8,p2,ho,hc,hb,hx⟩:=hrel;obtain⟨pm,cm,rfl⟩:=V6 ho;have HO:=Hd ho;have HC:=Hd hc;have HB:=Hd hb;have HX:=Hd hx;have e2:=Hd h8;clear ho hc hb hx h8
 by_cases b0:i<T.length
 ·have z1:decide ((i:Int)<(T.length:Int))=true:=Jb (by omega);have z2:decide (i<T.length)=true:=Jb b0;have i1:(i:Int)<(T.length:Int):=by omega
  obtain⟨bt,o7,p1,n1,d1,e,-,t0,t1,t2,t3,t4,t5,-,-⟩:=Fa (HT.o wr HB.o) b0;simp only[Value.slice.injEq,true_and]at e;obtain⟨rfl,rfl⟩:=e;obtain⟨c0,c1,c2⟩:=HX.o.c3;obtain⟨W1,d8⟩:∃W,wr.alloc (.cells #[.int .i64 T[i].op,.string (Oo T[i].sort),.string (Oo T[i].text),.int .i64 T[i].a,.int .i64 T[i].b,.slice p1 n1 d1] 38)=W:=⟨_,rfl⟩;have c8:Up wr W1:=by rw[<-d8];exact Oy _ _
  have j1:Bx W1 wr.heap.size [.int .i64 T[i].op,.string (Oo T[i].sort),.string (Oo T[i].text),.int .i64 T[i].a,.int .i64 T[i].b,.slice p1 n1 d1]:=by rw[<-d8];exact Oq _ _ _
  have b4:=Hd (HC.o.bl (c8.mono HC.o.2.1));have b3:Hid (Q.Bar g w W1):=HB.o.trans (.of c8);have J:=Hd (own_other' HO.o (fun q hq=>c8.block q (HO.o.lt q hq).2));have b8:=Hd (HX.o.bl HX.o.lt c8);have o6:=Hd d8;have o4:Hid (w.heap.size<=wr.heap.size):=HB.o.size;generalize T[i]=t at *
  go_upto_region 6 with fail
  obtain⟨s0,s1,-,-,-,-⟩:=j1.cs6;clear c8 j1 d8 t0 t1 t2 t3 t4 t5 c0 c1 c2;have g0:Hid (∀(W:World) k6,k6<=k5+2->Q.Ux g N W k6->Q.Bar g W1 W->∃(i' k5:Nat) (M':List Nat),i'<=T.length/\Value.int .i64 ((i:Int)+1)=.int .i64 (i':Nat)/\M'.length<=i'/\(∀x∈M',x<T.length)/\k5<=k+2*i'/\W.ownsRow (w.heap.size+1) 3 1 (.slice pm M.length cm) M'.length (labV M')/\Q.Ux g N W k5/\Q.Bar g w W/\Bx W w.heap.size [.slice ps ns cs,.slice pf nf cf,.slice (some ⟨bt,0,none⟩) T.length ct]):=fun W k6 h6 hc6 hb6=>
   ⟨i+1,k6,M,b0,by push_cast;rfl,by omega,e2.o,by omega,own_other' J.o (fun q hq=>hb6.block q (J.o.lt q hq).2 (by have:=Oe J.o q hq;have:=R.o;omega)),hc6,b3.o.trans hb6,Nw b8.o hb6 (by have:=R.o;omega)⟩
  by_cases hs:t.sort=Ok
  ·have y1:=H6 (s:=Oo t.sort) (l:=[66,111,111,108]) (by rw[Ov];exact hs);clear hs
   by_cases o9:t.op=9
   case' pos=>
    have d6:=J;have d3:=b4;have O:=b3;have b9:=b8;have e7:k5<=k5+2:=Vs _ _;rw[o9]at s0;clear o9
    go_upto_region 7 with fail
   case' neg=>
    have w9:(t.op==9)=false:=by rw[Jc];exact o9
    by_cases b2:t.op=11
    case' pos=>
     have d6:=J;have d3:=b4;have O:=b3;have b9:=b8;have e7:k5<=k5+2:=Vs _ _;rw[b2]at s0;clear b2 o9 w9
     go_upto_region 7 with fail
    case' neg=>
     have p8:(t.op==11)=false:=by rw[Jc];exact b2
     by_cases b1:17<=t.op/\t.op<=20
     case' pos=>
      have j2:decide (17<=t.op)=true:=Jb b1.1;have n0:decide (t.op<=20)=true:=Jb b1.2;have d6:=J;have d3:=b4;have O:=b3;have b9:=b8;have e7:k5<=k5+2:=Vs _ _;clear o9 b2 b1
      go_upto_region 7 with fail
     case' neg=>
      by_cases c6:17<=t.op
      case' pos=>
       have j2:decide (17<=t.op)=true:=Jb c6;have n0:decide (t.op<=20)=false:=Jd (fun h=>b1 ⟨c6,h⟩);clear o9 b2 b1 c6
       go_wp2_with fail
      case' neg=>
       have j2:decide (17<=t.op)=false:=Jd c6;clear o9 b2 b1 c6
       go_wp2_with fail
      all_goals
       refine(Q.Oj g N k5 4 _ b4.o (by omega) (by decide) (by decide)).mono ?_;rintro e w6 ⟨r6,k6,rfl,m6,e6,hc6,hb6⟩
       by_cases h6:r6=0
       case' pos=>
        have y2:((r6:Int)==0)=true:=by rw[J2];omega
        have d6:=Hd (own_other' J.o (fun q hq=>hb6.block q (J.o.lt q hq).2 (by have:=Oe J.o q hq;have:=R.o;omega)));have d3:=Hd hc6;have O:Hid (Q.Bar g w w6):=b3.o.trans hb6;have b9:=Hd (Nw b8.o hb6 (by have:=R.o;omega));have e7:=e6;clear hc6 hb6
        go_upto_region 7 with fail
       case' neg=>
        have y2:((r6:Int)==0)=false:=by rw[Jc];omega
        have HE:=Hd (g0.o w6 k6 e6 hc6 hb6);clear hc6 hb6
        go_wp2
        go_roundw
        case rel=>exact HE.o
        simp[intOf];omega
   all_goals
    have h3:=Hd b9.o.lt
    go_wp2_with (refine Ke (y:=i) (base:=w.heap.size+1) (N:=M) rfl _ _ rfl rfl d6.o _ rfl rfl (by omega) h3.o ?_)
    intro v' W' e8 h9;obtain⟨pn,cn,rfl⟩:=V6 e8;have V:=((Oy _ _).mono h3.o).trans h9;have HR:Hid (Q.Ux g N W' _/\Q.Bar g w W'/\Bx W' w.heap.size [.slice ps ns cs,.slice pf nf cf,.slice (some ⟨bt,0,none⟩) T.length ct]):=⟨d3.o.bl (V.mono (Nat.le_succ_of_le g8.o)),⟨V.os.trans O.o.os,V.tape.trans O.o.tape,V.output.trans O.o.output,Jm O.o.size V.size,fun q hq hg=>(V.block q (by omega)).trans (O.o.block q hq hg)⟩,b9.o.bl (Ye _) V⟩;have l3:=Hd e8;clear e8 h9 V
    go_wp2
    go_roundw
    case rel=>exact⟨i+1,_,M++[i],b0,by go_num,by simp;omega,fun x hx=>(Yc.1 hx).elim (e2.o x) (fun h=>by rw[J5.1 h];exact b0),by omega,by rw[Jq];exact l3.o,HR.o.1,HR.o.2.1,HR.o.2.2⟩
    simp[intOf];omega
  have y1:=Nh (s:=Oo t.sort) (l:=[66,111,111,108]) (by rw[Ov];exact hs);clear hs
  go_wp2
  go_roundw
  case rel=>exact g0.o _ k5 (by omega) b4.o (Q.Bar.refl _ _)
  simp[intOf];omega
 have z1:decide ((i:Int)<(T.length:Int))=false:=Jd (by omega);have z2:decide (i<T.length)=false:=Jd b0
 by_cases h7:M.length=0
 ·rw[h7];have HR:Hid (FU g N w T.length (.returned (.slice none 0 0)) wr mo (k+200000)):=⟨_,[],k5,rfl,Jp _,fun f hf=>absurd hf Yi,K5 _ _ _ _,by omega,HC.o,HB.o⟩
  go_wp2
  go_ret
  exact HR.o
 have y1:((M.length:Int)==0)=false:=by rw[Jc];omega
 obtain⟨bq,rfl⟩:∃b,pm=some ⟨b,0,none⟩:=by
  obtain⟨p,c,e,-,-,h⟩:=Kp HO.o;simp only[Value.slice.injEq,true_and]at e;obtain⟨rfl,rfl⟩:=e
  rcases h with h|⟨b,rfl,-⟩
  ·exact absurd h h7
  exact⟨b,rfl⟩
 go_wp2_with fail
 refine(Q.Oj g N k5 (mo+1) _ HC.o (by omega) (by omega) (by omega)).mono ?_;rintro e w3 ⟨r,k3,rfl,hr,p0,i7,e5⟩;have k9:=Hd i7;have j8:=Hd (HB.o.trans e5);have l4:=Hd (own_other' HO.o (fun q hq=>e5.block q (HO.o.lt q hq).2 (by have:=Oe HO.o q hq;have:=R.o;omega)));clear i7 e5
 go_wp2
 go_loopw [10,11] (fun v nv wq=>∃(j k6:Nat) (L:List (Int×Bool)),nv=.int .i64 (j:Nat)/\L.length+j<=mo/\(∀f∈L,0<=f.1/\f.1<(T.length:Int))/\k6<=k+130000+4*(mo - j)/\wq.ownsRow w.heap.size 36 2 v L.length (L.flatMap N3)/\wq.ownsRow (w.heap.size+1) 3 1 (.slice (some ⟨bq,0,none⟩) M.length cm) M.length (labV M)/\Q.Ux g N wq k6/\Q.Bar g w wq) (fun _ nv _=>(intOf nv).toNat)
 case atStart=>exact⟨r,k3,[],rfl,by simp;omega,fun f hf=>absurd hf Yi,by omega,K5 _ _ _ _,l4.o,k9.o,j8.o⟩
 rename World=>wq
 obtain⟨j,k6,L,rfl,hL,h5,e6,Z,j0,hc,hb⟩:=hrel;obtain⟨pn,cn,rfl⟩:=V6 Z;have d4:=Hd Z;have d5:=Hd j0;have g6:=Hd hc;have g3:=Hd hb;have g7:=Hd h5;clear Z j0 hc hb h5
 by_cases hj:0<j
 ·have y3:decide ((0:Int)<(j:Int))=true:=Jb (by omega);have y4:decide (0<j)=true:=Jb hj;have b5:Hid (∀W:World,W.ownsRow (w.heap.size+1) 3 1 (.slice (some ⟨bq,0,none⟩) M.length cm) M.length (labV M)->∀j,j<M.length->W.cell? ⟨bq,j,none⟩=some (.int .i64 ((labA M j:Nat):Int))):=fun W h1 j hj=>(Nz h1 hj).1;have l1:Hid (Q.Ux g N wq.drew k6):=g6.o.bl (Ji _ _).drew;have o8:M.length<=60000:=by omega
  go_wp2_with fail
  refine Ph 15 rfl (S:=fun W=>∀j,j<M.length->W.cell? ⟨bq,j,none⟩=some (.int .i64 ((labA M j:Nat):Int))) (by kernel_rfl) (b5.o wq d5.o) (fun hHeld=>?_)
  iterate 5 (refine tkf 14 82 (v:=?_) rfl rfl (by kernel_rfl) (fun _ _ _ h=>h) (.inl ⟨by rfl,?_⟩) (by assumption) ?_;rotate_left;(intro w G;(try dsimp only at G);go_simp;(try with_reducible rfl));try simp only[Act.put,Ja,Je,Jf])
  refine tk 8 76 (v:=?_) rfl rfl (by kernel_rfl) (fun _ _ _ h=>h) (.inl ⟨by rfl,?_⟩) (by assumption) ?_;rotate_left;(intro w G;(try dsimp only at G);go_simp;(try with_reducible rfl));try simp only[Act.put,Ja,Je,Jf];refine wpAnyH_ready (rs:=[5]) (by kernel_rfl) (by simp) ?_;refine AllReadyH.cons rfl (fun K hK=>?_) AllReadyH.nil
  go_simp
  go_at_call 19
  refine(Q.Oj g N k6 M.length _ l1.o (by omega) (by omega) (by omega)).mono ?_;rintro e w5 ⟨r5,k7,rfl,e9,p3,i8,a8⟩;have g2:Hid (Q.Bar g wq w5):=⟨a8.os,a8.tape,a8.output,a8.size,a8.block⟩;have l0:=Hd i8;have a1:=Hd (own_other' d5.o (fun q hq=>g2.o.block q (d5.o.lt q hq).2 (by have:=Oe d5.o q hq;have:=R.o;omega)));have m6:(r5:Int)<(M.length:Int):=by omega
  clear i8 a8
  go_wp2_with fail
  refine hK.out _ _ (b5.o w5 a1.o) (fun hHeld5=>?_);clear hK K
  try simp only[Act.put,Ja,Je,Jf]
  refine tk 6 74 (v:=?_) rfl rfl (by kernel_rfl) (fun _ _ _ h=>h) (.inl ⟨by rfl,?_⟩) (by assumption) ?_;rotate_left;(intro w G;skip;go_simp;(try with_reducible rfl));try simp only[Act.put,Ja,Je,Jf];refine tk 7 75 (v:=?_) rfl rfl (by kernel_rfl) (fun _ _ _ h=>h) (.inl ⟨by rfl,?_⟩) (by assumption) ?_;rotate_left;(intro w G;have hq:=G r5 e9;go_simp;(try with_reducible rfl));try simp only[Act.put,Ja,Je,Jf];refine wpAnyH_ready (rs:=[9]) (by kernel_rfl) (by simp) ?_;refine AllReadyH.cons rfl (fun K hK=>?_) AllReadyH.nil
  go_simp
  go_at_call 19
  refine(Q.Oj g N k7 3 _ l0.o (by omega) (by decide) (by decide)).mono ?_;rintro e w6 ⟨r6,k8,rfl,n8,p4,hc6,hb6⟩;have j9:Hid (Q.Bar g wq w6):=g2.o.trans hb6;have g4:=Hd hc6;have b7:=Hd (own_other' a1.o (fun q hq=>hb6.block q (a1.o.lt q hq).2 (by have:=Oe a1.o q hq;have:=R.o;omega)));clear hc6 hb6
  go_wp2_with fail
  refine hK.out _ _ (b5.o w6 b7.o) (fun hHeld9=>?_);clear hK K
  try simp only[Act.put,Ja,Je,Jf]
  refine tk 10 78 (v:=?_) rfl rfl (by kernel_rfl) (fun _ _ _ h=>h) (.inl ⟨by rfl,?_⟩) (by assumption) ?_;rotate_left;(intro w G;(try dsimp only at G);go_simp;(try with_reducible rfl));try simp only[Act.put,Ja,Je,Jf];refine tk 11 79 (v:=?_) rfl rfl (by kernel_rfl) (fun _ _ _ h=>h) (.inl ⟨by rfl,?_⟩) (by assumption) ?_;rotate_left;(intro w G;(try dsimp only at G);go_simp;(try with_reducible rfl));try simp only[Act.put,Ja,Je,Jf];refine wpAnyH_ready (rs:=[12]) (by kernel_rfl) (by simp) ?_;refine AllReadyH.cons rfl (fun K hK=>?_) AllReadyH.nil
  go_simp
  obtain⟨W7,d9⟩:∃W,w6.alloc (.cells #[.int .i64 ((labA M r5:Nat):Int),.bool (decide (0<r6))] 36)=W:=⟨_,rfl⟩;have e0:Up w6 W7:=by rw[<-d9];exact Oy _ _
  have g9:Hid (W7.heap[w6.heap.size]? = some (.cells (N3 (((labA M r5:Nat):Int),decide (0<r6))).toArray 36 (0,0))):=by unfold Hid;rw[<-d9];exact Js
  have d0:Q.Bar g wq W7:=j9.o.trans (.of e0);have b6:=Hd (own_other' d4.o (fun q hq=>d0.block q (d4.o.lt q hq).2 (by have:=Oe d4.o q hq;have:=R.o;omega)));have a7:=Hd (own_other' b7.o (fun q hq=>e0.block q (b7.o.lt q hq).2));have g5:=Hd (g4.o.bl (e0.mono g4.o.2.1));have Y:Hid (Q.Bar g w W7):=g3.o.trans d0;have h4:Hid (w.heap.size<=W7.heap.size/\L.length<=1000000000):=⟨Y.o.size,by omega⟩;have p5:labA M r5<T.length:=by rw[O1 e9];exact e2.o _ (Jj e9)
  rw[d9];refine hK.out _ _ (b5.o W7 a7.o) (fun hHeld12=>?_);clear hK K d9 e0 d0
  try simp only[Act.put,Ja,Je,Jf]
  refine wpAnyH_ready (rs:=[13]) (by kernel_rfl) (by simp) ?_;refine AllReadyH.cons rfl (fun K hK=>?_) AllReadyH.nil;refine VE (x:=(((labA M r5:Nat):Int),decide (0<r6))) (n:=L.length) (base:=w.heap.size) (xs:=L.flatMap N3) (by rfl) _ _ (by rfl) (by rfl) b6.o (by rfl) g9.o h4.o.2 h4.o.1 ?_;intro gt cq wa d2 E
  change K (Act.put _ (some 81) (.slice (some ⟨gt,0,none⟩) (L.length+1) cq)) wa
  simp only[Act.put,Ja,Je,Jf];have Z:∀q,(Value.slice pn L.length cn).ownBlock=some q->w.heap.size<=q:=fun q hq=>Oe b6.o q hq;have e1:=Hd (own_other' a7.o (fun q hq=>E.block q (a7.o.lt q hq).2 (fun e=>by
   obtain⟨c1,f1,h1⟩:=Ob a7.o q hq;obtain⟨c2,f2,h2⟩:=Ob b6.o q e.symm;rw[h1]at h2
   cases h2)))
  have l2:Hid (Q.Ux g N wa k8):=g5.o.bl ⟨E.os,E.tape,E.output,E.size,fun q hq=>E.block q (Jn hq g5.o.2.1) (fun e=>by have:=Z q e.symm;have:=g8.o;omega)⟩;have k0:Hid (Q.Bar g w wa):=⟨E.os.trans Y.o.os,E.tape.trans Y.o.tape,E.output.trans Y.o.output,Jm Y.o.size E.size,fun q hq hg=>(E.block q (Jn hq Y.o.size) (fun e=>by have:=Z q e.symm;omega)).trans (Y.o.block q hq hg)⟩;have h0:Hid (wa.ownsRow w.heap.size 36 2 (.slice (some ⟨gt,0,none⟩) (L.length+1) cq) (L++[(((labA M r5:Nat):Int),decide (0<r6))]).length ((L++[(((labA M r5:Nat):Int),decide (0<r6))]).flatMap N3)):=by
   unfold Hid;rw[Jq,Ze,Yx]
   simpa using d2
  refine hK.out _ _ (b5.o wa e1.o) (fun hHeld13=>?_);clear hK K d2 E Z;refine tk 14 10 (v:=?_) rfl rfl (by kernel_rfl) (fun _ _ _ h=>h) (.inl ⟨by rfl,?_⟩) (by assumption) ?_;rotate_left;(intro w G;(try dsimp only at G);go_simp;(try with_reducible rfl));try simp only[Act.put,Ja,Je,Jf];refine wpAnyH_done (by kernel_rfl) ?_ _;clear hHeld hHeld5 hHeld9 hHeld12 hHeld13
  go_wp2
  go_roundw
  case rel=>
   refine⟨j - 1,k8,L++[(((labA M r5:Nat):Int),decide (0<r6))],by congr 1;omega,by simp;omega,fun f hf=>(Yc.1 hf).elim (g7.o f) (fun h=>?_),by omega,h0.o,e1.o,l2.o,k0.o⟩;rw[J5.1 h];exact⟨by simp,by simp only;omega⟩
  simp[intOf];omega
 have y3:decide ((0:Int)<(j:Int))=false:=Jd (by omega);have y4:decide (0<j)=false:=Jd hj;have HR:Hid (FU g N w T.length (.returned (.slice pn L.length cn)) wq mo (k+200000)):=⟨_,L,k6,rfl,by omega,g7.o,d4.o,by omega,g6.o,g3.o⟩
 go_wp2
 go_ret
 exact HR.o
end Go.Proofs.YtfkagjelljnpdaaGreatDoor
