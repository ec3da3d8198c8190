import Derived.Test.YtfkagjelljnpdaaGreatDoorP27
import Derived.Handy
set_option linter.all false
set_option maxRecDepth 100000
set_option maxHeartbeats 8000000
namespace Go.Proofs.YtfkagjelljnpdaaGreatDoor
open ChangeShapes WideShapes ChangeAt RowKit Proofs.Tryz
variable {B eb g k mb n:Nat}{v:Value}{w w':World}{xs:List Value}
def MV(v:Value):Nat:=match v with|.pointer (some a)=>a.off / 8|_=>0
structure Fo(ms:List Me)(R:List Nat)(D:Nat->Nat):Prop where
 len:R.length=ms.length
 step:∀i (h:i<ms.length),(ms[i].up=none/\labA R i=i)∨∃j,j<ms.length/\ms[i].up=some j/\labA R j=labA R i/\D j<D i
theorem Hj{ms:List Me}{R:List Nat}{D:Nat->Nat}(w:World)(h:MemsAt w mb ms)(hF:Fo ms R D)(i:Nat)(hi:i<ms.length) :
 Calls prog 14 #[mp mb i] w fun e w'=>e=.returned (mp mb (labA R i))/\w'=w:=by
 have Y:=Hd h;have V:=Hd hF;clear h hF;unfold mp
 go_in
 go_wp2
 go_loopw [0] (fun s0 wr=>∃j:Nat,j<ms.length/\s0=.pointer (some ⟨mb,j*8,none⟩)/\labA R j=labA R i/\wr=w) (fun s0 _=>D (MV s0))
 case atStart=>exact⟨i,hi,rfl,rfl,rfl⟩
 obtain⟨j,K,rfl,hl,rfl⟩:=hrel;have c1:=(Y.o.cells K).2.1;have G:=Hd hl;clear hl
 rcases V.o.step j K with⟨e,q⟩|⟨k,Z,e,q,J⟩
 ·rw[e]at c1;have c2:wr.cell? ⟨mb,j*8+1,none⟩=some (.pointer none):=c1;have E:=Hd (q.symm.trans G.o);clear c1 e q
  go_wp2
  go_ret
  exact⟨by rw[<-E.o];rfl,rfl⟩
 rw[e]at c1;have c2:wr.cell? ⟨mb,j*8+1,none⟩=some (.pointer (some ⟨mb,k*8,none⟩)):=c1;have E:=Hd (q.trans G.o);have O:Hid (D k<D j):=J;clear c1 e q J
 go_wp2
 go_roundw
 case rel=>exact⟨k,Z,rfl,E.o,trivial⟩
 simpa[MV]using O.o
abbrev NoX:Nat->Prop:=fun _=>False
theorem YZ:(prog.info? 84).map (fun i=>(i.zero,i.size,i.bytes))=some (some (.agg #[.pointer none,.pointer none]),2,16):=by kernel_rfl
theorem Uf{base size i:Nat}{e:TypeId}{u:Value}(h:w.ownsRow base e size v n xs)(hg:Ix w g≠some e):(w.setCell ⟨g,i,none⟩ u).ownsRow base e size v n xs:=by
 refine⟨h.1,?_⟩
 rcases h.2 with G|⟨E,q,cur,K,hb,j,J⟩
 ·exact .inl G
 exact .inr ⟨E,q,cur,K,hb,(Jh w ⟨g,i,none⟩ u E (fun e'=>by simp only at e';subst e';exact hg (U7 j))).trans j,J⟩
def Pk(w:World)(v:Value)(w':World)(v':Value):Prop:=∀pb,Ix w pb=some 84->v.ownBlock≠some pb->w'.heap[pb]? = w.heap[pb]? /\ v'.ownBlock≠some pb
theorem PN{t:TypeId}(h:Ix w k=some t):k<w.heap.size:=by
 unfold Ix at h
 cases e:w.heap[k]? with
 | none=>rw[e]at h;cases h
 | some b=>exact(Jo.1 e).1
theorem Pk.trans{w1 w2 w3:World}{v1 v2 v3:Value}(h:Pk w1 v1 w2 v2)(k:Pk w2 v2 w3 v3):Pk w1 v1 w3 v3:=fun pb ht hn=>by
 obtain⟨a,b⟩:=h pb ht hn
 obtain⟨c,d⟩:=k pb (by rw[Iq a];exact ht) b
 exact⟨c.trans a,d⟩
theorem Pk.ch{ts:List (Option TypeId)}(v:Value)(hc:Ch B NoX ts w w')(h:some 84∉ts):Pk w v w' v:=fun pb ht hn=>⟨hc.block pb (PN ht) (by rw[ht];exact .inr (.inr h)),hn⟩
theorem Pk.grown{c Z:Nat}(hg:w.grownBy w' v.ownBlock)(hat:v.ownBlock=some g∨g=Z)(hZ:w.heap.size<=Z):Pk w v w' (.slice (some ⟨g,0,none⟩) n c):=fun pb ht hn=>by
 refine⟨hg.block pb (PN ht) (fun e=>hn e.symm),fun e=>?_⟩
 have j:g=pb:=Option.some.inj e
 subst j
 rcases hat with h|h
 ·exact hn h
 have:=PN ht;omega
theorem CY{bx:List Value}{vI:Value}(a b:Option Addr)(w:World)(hE:Tb w eb 59 bx)(h6:bx[6]? = some vI)(hI:w.ownsRow B 84 2 vI n xs)(hB:B<=eb)(hn:n<=5000000000000) :
 Calls prog 60 #[.pointer (some ⟨eb,6,none⟩),.agg #[.pointer a,.pointer b]] w fun e w'=>e=.returned (.tuple #[])/\∃v',w'.ownsRow B 84 2 v' (n+1) (xs++[.pointer a,.pointer b])/\Tb w' eb 59 (bx.set 6 v')/\Ch B NoX [some 59,some 84] w w'/\Pk w vI w' v':=by
 obtain⟨i0,b6,e5,e6,e7⟩:=info_parts YZ;obtain⟨G,O⟩:=O2 (w.alloc (.cells #[.pointer a,.pointer b] 84));have V:Up w G:=by rw[<-O];exact Oy _ _
 have a8:Bx G w.heap.size [.pointer a,.pointer b]:=by rw[<-O];exact Oq w _ _
 have b5:Ch B NoX [some 59,some 84] w G:=Ch.up _ _ _ V;have K:Tb G eb 59 bx:=(V.block eb hE.bx.lt).trans hE;have b4:G.ownsRow B 84 2 vI n xs:=by rw[<-O];exact hI.alloc _
 have e4:=Hd O;have d0:=Hd b5;obtain⟨Z,hZ⟩:=O2 G.heap.size;have f5:eb<Z:=by rw[<-hZ];exact K.bx.lt
 have Y:=K.bx.cell 6;rw[h6]at Y;obtain⟨x0,x1⟩:=a8.c2;have f8:w.heap.size<Z:=by rw[<-hZ];exact a8.lt
 obtain⟨W2,q⟩:=O2 ((G.alloc (.cells #[.pointer a,.pointer b] 84)).drew);have J:=Hd q;have b1:Hid (W2.ownsRow B 84 2 vI n xs):=by unfold Hid;rw[<-q];exact(b4.alloc _).drew
 have e0:Hid (∀i u,([.pointer a,.pointer b]:List Value)[i]? = some u->W2.cell? ((⟨Z,0,none⟩:Addr).add i)=some u):=by
  have h:=World.news_of_block (cs:=#[.pointer a,.pointer b]) (t:=84) (fr:=(0,0)) (heap_alloc_new G (.cells #[.pointer a,.pointer b] 84));rw[hZ]at h;unfold Hid;rw[<-q];exact h
 have d5:Hid (Tb W2 eb 59 bx):=by
  unfold Hid;rw[<-q];exact((Oy G _).block eb K.bx.lt).trans K
 have d3:Hid (Ch B NoX [some 59,some 84] G W2):=by
  unfold Hid;rw[<-q];exact(Ch.up _ _ _ (Oy G _)).drew
 have b8:W2.heap.size=Z+1:=by rw[<-q,<-hZ];simp
 have b2:=Hd b8;have c8:Hid (B<=W2.heap.size):=by unfold Hid;omega
 have d7:Hid (Pk w vI W2 vI):=(Pk.ch (B:=B) vI (Ch.up B NoX [] V) (by simp)).trans (by rw[<-q];exact Pk.ch (B:=B) (ts:=[]) vI (Ch.up _ _ _ (Oy G _)).drew (by simp));have HEB:=Hd hB;obtain⟨pI,cI,rfl⟩:∃p c,vI=Value.slice p n c:=by
  rcases hI.2 with⟨e,e2⟩|⟨g',e9,cur,e,_⟩
  ·exact⟨none,0,by rw[e,e2]⟩
  exact⟨_,_,e⟩
 clear hE hI O V a8 b5 K b4 q b8
 go_in
 go_upto_region 1 with fail
 rw[e4.o]
 go_region_law
  ((refine step_append_lies _ (by rfl) _ _ _ (by rfl) B 84 i0 _ 2 16 underlying53 b6 e5 e6 e7 rfl (by omega) (.slice pI n cI) n xs (by rfl) (by rw[J.o];exact b1.o) ⟨Z,0,none⟩ 1 1 [.pointer a,.pointer b] (by rfl) (by rfl) (by rw[J.o];exact e0.o) (by simp[Value.oneCell']) (by omega) (by unfold maxLen;omega) (by omega) (by rw[J.o];exact c8.o) (Z+1) (by rw[J.o];exact b2.o) ?_;rw[J.o];intro g6 Y w6 R j a1 b7;have e1:=Hd R;have b0:=Hd (Ch.grown (B:=B) (X:=NoX) (ts:=[some 84]) j b1.o leR (fun _ _ h=>h) (by simp));have E:=Hd (d5.o.ch b0.o (.inr (.inr (by decide))));have d1:=E.o.bx.cell 6;rw[h6]at d1;have d2:=E.o.bx.fz 6;have d8:=Hd (Pk.grown (n:=n+1) (c:=Y) j a1 (by rw[b2.o];omega));clear R j a1 b7))
 all_goals (
  have d6:=Hd (E.o.set 6 (.slice (some ⟨g6,0,none⟩) (n+1) Y));have e3:=Hd (Uf (g:=eb) (i:=6) (u:=.slice (some ⟨g6,0,none⟩) (n+1) Y) e1.o (by rw[E.o.ty];decide));have d4:Hid (Ch B NoX [some 59,some 84] w (w6.setCell ⟨eb,6,none⟩ (.slice (some ⟨g6,0,none⟩) (n+1) Y))):=((d0.o.trans d3.o).trans (b0.o.wide (by decide))).trans (Ch.set HEB.o (fun h=>h) (by rw[E.o.ty];decide));have d9:=Hd (Pk.ch (.slice (some ⟨g6,0,none⟩) (n+1) Y) (Ch.set (i:=6) (v:=.slice (some ⟨g6,0,none⟩) (n+1) Y) (X:=NoX) (ts:=[some 59]) HEB.o (fun h=>h) (by rw[E.o.ty];decide)) (by decide));clear d1 d2
  go_wp2_with fail
  go_end0
  exact⟨rfl,_,e3.o,d6.o,d4.o,(d7.o.trans d8.o).trans d9.o⟩)
theorem Dw{m cM:Nat}{bx:List Value}{vI:Value}(i j:Nat)(w:World)(hE:Tb w eb 59 bx)(h5:bx[5]? = some (.slice (some ⟨mb,0,none⟩) m cM))(h6:bx[6]? = some vI)(hI:w.ownsRow B 84 2 vI n xs)(hB:B<=eb)(hn:n<=5000000000000)(hi:i<m)(hj:j<m) :
 Calls prog 32 #[.pointer (some ⟨eb,0,none⟩),.int .i64 (i:Nat),.int .i64 (j:Nat)] w fun e w'=>e=.returned (.tuple #[])/\∃v',w'.ownsRow B 84 2 v' (n+1) (xs++[mp mb i,mp mb j])/\Tb w' eb 59 (bx.set 6 v')/\Ch B NoX [some 59,some 84] w w'/\Pk w vI w' v':=by
 have Z:=Hd (CY (some ⟨mb,i*8,none⟩) (some ⟨mb,j*8,none⟩) w.drew (hE:Tb w.drew eb 59 bx) h6 hI.drew hB hn);have c5:=hE.bx.cell 5;rw[h5]at c5;have z1:decide (i<m)=true:=Jb hi;have z2:decide (j<m)=true:=Jb hj;have y1:(i:Int)<(m:Int):=by omega
 have y2:(j:Int)<(m:Int):=by omega
 have J:=Hd h5;clear hE hI h5 h6
 go_in
 go_wp2
 go_region_held3 (fun W=>W.cell? ⟨eb,5,none⟩=some (.slice (some ⟨mb,0,none⟩) m cM)) (first
  | assumption|go_keep) (first
  | (go_at_call 60;refine Z.o.mono ?_;rintro e Y ⟨rfl,v',V,E,h,R⟩;have K:Hid (Pk w vI Y v'):=fun pb h1 h2=>R pb h1 h2;have O:=Hd V;have q:=Hd E;have G:Hid (Ch B NoX [some 59,some 84] w Y):=⟨h.os,h.tape,h.output,h.size,h.block⟩;have d5:=q.o.bx.cell 5;rw[Zg (by decide:(6:Nat)≠5),J.o]at d5;clear V E h R))
 all_goals (go_wp2_with fail;go_end0;exact⟨rfl,v',O.o,q.o,G.o,K.o⟩)
theorem EP:(prog.info? 114).map (fun i=>(i.zero,i.size,i.bytes))=some (some (.agg #[.pointer none,.int .i64 0,.pointer none,.bool false,.bool false,.slice none 0 0,.int .i64 0,.bool false,.slice none 0 0]),9,96):=by kernel_rfl
theorem Sy{bx:List Value}{vC:Value}{ms:List Me}(i:Nat)(w:World)(hE:Tb w eb 59 bx)(h11:bx[11]? = some vC)(hC:w.ownsRow B 114 9 vC n xs)(hB:B<=eb)(hn:n<=1000000000)(hM:MemsAt w mb ms)(hi:i<ms.length)(ho1:ms[i].ids.oneCell'=true)(ho2:ms[i].ap.oneCell'=true) :
 Calls prog 31 #[.pointer (some ⟨eb,0,none⟩),mp mb i] w fun e w'=>e=.returned (mp mb i)/\∃v' xs',w'.ownsRow B 114 9 v' (n+1) xs'/\Tb w' eb 59 (bx.set 11 v')/\Ch B NoX [some 59,some 114] w w':=by
 obtain⟨i0,a8,d8,d9,e0⟩:=info_parts EP;obtain⟨c0,c1,c2,c3,c4,c5,c6,c7⟩:=hM.cells hi;generalize ms[i]=m at *;obtain⟨up,s0,s1,ids,le,pl,ap⟩:=m;simp only at c1 c2 c3 c4 c5 c6 c7 ho1 ho2;obtain⟨pu,b1⟩:∃pu,MR mb up=.pointer pu:=by cases up with|none=>exact⟨_,rfl⟩|some j=>exact⟨_,rfl⟩
 rw[b1]at c1;have d7:mb<w.heap.size:=hM.lt;have d6:eb<w.heap.size:=hE.bx.lt;obtain⟨Z,hZ⟩:=O2 w.heap.size;rw[hZ]at d7 d6;have d3:=hE.bx.cell 11;rw[h11]at d3;obtain⟨O,q⟩:=O2 ((w.alloc (.cells #[.pointer (some ⟨mb,i*8,none⟩),.int .i64 (i:Nat),.pointer pu,.bool s0,.bool s1,ids,.int .i64 (le:Nat),.bool pl,ap] 114)).drew);have J:=Hd q;have V:Hid (O.ownsRow B 114 9 vC n xs):=by unfold Hid;rw[<-q];exact(hC.alloc _).drew
 have b8:Hid (∀j u,([.pointer (some ⟨mb,i*8,none⟩),.int .i64 (i:Nat),.pointer pu,.bool s0,.bool s1,ids,.int .i64 (le:Nat),.bool pl,ap]:List Value)[j]? = some u->O.cell? ((⟨Z,0,none⟩:Addr).add j)=some u):=by
  have h:=World.news_of_block (cs:=#[.pointer (some ⟨mb,i*8,none⟩),.int .i64 (i:Nat),.pointer pu,.bool s0,.bool s1,ids,.int .i64 (le:Nat),.bool pl,ap]) (t:=114) (fr:=(0,0)) (heap_alloc_new w (.cells #[.pointer (some ⟨mb,i*8,none⟩),.int .i64 (i:Nat),.pointer pu,.bool s0,.bool s1,ids,.int .i64 (le:Nat),.bool pl,ap] 114));rw[hZ]at h;unfold Hid;rw[<-q];exact h
 have b6:Hid (Tb O eb 59 bx):=by
  unfold Hid;rw[<-q];exact((Oy w _).block eb hE.bx.lt).trans hE
 have b4:Hid (Ch B NoX [some 59,some 114] w O):=by
  unfold Hid;rw[<-q];exact(Ch.up _ _ _ (Oy w _)).drew
 have b2:O.heap.size=Z+1:=by rw[<-q,<-hZ];simp
 have d0:=Hd b2;have b3:Hid (B<=O.heap.size):=by unfold Hid;omega
 have HEB:=Hd hB;have Y:Hid (∀u∈([.pointer (some ⟨mb,i*8,none⟩),.int .i64 (i:Nat),.pointer pu,.bool s0,.bool s1,ids,.int .i64 (le:Nat),.bool pl,ap]:List Value),u.oneCell'=true):=by
  intro u hu;simp only[Ym,Yi,or_false]at hu
  rcases hu with rfl|rfl|rfl|rfl|rfl|rfl|rfl|rfl|rfl<;>first|assumption|rfl
 obtain⟨pI,cI,rfl⟩:∃p c,vC=Value.slice p n c:=by
  rcases hC.2 with⟨e,e2⟩|⟨g',e4,cur,e,_⟩
  ·exact⟨none,0,by rw[e,e2]⟩
  exact⟨_,_,e⟩
 clear hE hC hM q b2 b1;unfold mp
 go_in
 go_upto_region 1 with fail
 go_region_law
  ((refine step_append_lies _ (by rfl) _ _ _ (by rfl) B 114 i0 _ 9 96 underlying57 a8 d8 d9 e0 rfl (by omega) (.slice pI n cI) n xs (by rfl) (by rw[J.o];exact V.o) ⟨Z,0,none⟩ 1 1 [.pointer (some ⟨mb,i*8,none⟩),.int .i64 (i:Nat),.pointer pu,.bool s0,.bool s1,ids,.int .i64 (le:Nat),.bool pl,ap] (by rfl) (by rfl) (by rw[J.o];exact b8.o) Y.o (by omega) (by unfold maxLen;omega) (by omega) (by rw[J.o];exact b3.o) (Z+1) (by rw[J.o];exact d0.o) ?_;rw[J.o];intro g6 c6 w6 K E a7 b0;have b9:=Hd K;have R:=Hd (Ch.grown (B:=B) (X:=NoX) (ts:=[some 114]) E V.o leR (fun _ _ h=>h) (by simp));have G:=Hd (b6.o.ch R.o (.inr (.inr (by decide))));have d1:=G.o.bx.cell 11;rw[h11]at d1;have d2:=G.o.bx.fz 11;clear K E a7 b0))
 all_goals (
  have b7:=Hd (G.o.set 11 (.slice (some ⟨g6,0,none⟩) (n+1) c6));have c8:=Hd (Uf (g:=eb) (i:=11) (u:=.slice (some ⟨g6,0,none⟩) (n+1) c6) b9.o (by rw[G.o.ty];decide));have b5:Hid (Ch B NoX [some 59,some 114] w (w6.setCell ⟨eb,11,none⟩ (.slice (some ⟨g6,0,none⟩) (n+1) c6))):=(b4.o.trans (R.o.wide (by decide))).trans (Ch.set HEB.o (fun h=>h) (by rw[G.o.ty];decide));clear d1 d2
  go_wp2
  go_ret
  exact⟨rfl,_,_,c8.o,b7.o,b5.o⟩)
theorem own_none{base size cap:Nat}{e:TypeId}{p:Option Addr}(h:w.ownsRow base e size (.slice p n cap) n xs):w.ownsRow base e size (.slice p 0 cap) 0 []:=by
 refine⟨by simp,?_⟩
 rcases h.2 with⟨O,J⟩|⟨K,G,cur,V,hb,j,Y,q,E,R⟩
 ·subst J;exact .inl ⟨O,rfl⟩
 cases V;exact .inr ⟨K,_,cur,rfl,hb,j,Jp _,q,E,by simp⟩
theorem I3{i:Nat}{t:TypeId}{l:List Value}(h:Tb w g t l)(hk:g≠k):Tb (w.setCell ⟨k,i,none⟩ v) g t l:=(Jh w ⟨k,i,none⟩ v g hk).trans h
theorem Wx{W2:World}{l:List Value}{x y p q:Value}(hE:Tb W2 eb 59 l)(hX:Tb W2 k 84 [p,q])(hk:k≠eb)(hc:Ch B NoX [some 59] w W2)(hw:w.heap.size<=k:=by exact leR) :
 ((W2.setCell ⟨k,0,none⟩ x).setCell ⟨k,1,none⟩ y).cell? ⟨k,0,none⟩=some x/\((W2.setCell ⟨k,0,none⟩ x).setCell ⟨k,1,none⟩ y).cell? ⟨k,1,none⟩=some y/\Tb ((W2.setCell ⟨k,0,none⟩ x).setCell ⟨k,1,none⟩ y).drew eb 59 l/\Ch B NoX [some 59] w ((W2.setCell ⟨k,0,none⟩ x).setCell ⟨k,1,none⟩ y).drew:=by
 have j:=(hX.set 0 x).set 1 y;refine⟨j.bx.c2.1,j.bx.c2.2,I3 (I3 hE (Ne.symm hk)) (Ne.symm hk),?_⟩;refine Ch.drew ⟨hc.os,hc.tape,hc.output,?_,fun i hi h=>?_⟩
 ·have:=hc.size;simpa[World.setCell]using this
 exact((Jh _ ⟨k,1,none⟩ y i (by simp only;omega)).trans (Jh _ ⟨k,0,none⟩ x i (by simp only;omega))).trans (hc.block i hi h)
def MA(B eb n gv:Nat)(pI:Option Addr)(cI:Nat)(bx xs:List Value)(w:World)(e:Ending)(w':World):Prop:=
 (gv=n/\e=.returned (.tuple #[.agg #[.pointer none,.pointer none],.bool false])/\Tb w' eb 59 ((bx.set 6 (.slice pI 0 cI)).set 7 (.int .i64 0))/\Ch B NoX [some 59] w w')∨(gv<n/\(∃x y,xs[gv*2]? = some x/\xs[gv*2+1]? = some y/\e=.returned (.tuple #[.agg #[x,y],.bool true]))/\Tb w' eb 59 (bx.set 7 (.int .i64 ((gv+1:Nat):Int)))/\Ch B NoX [some 59] w w')
theorem RF{gv:Nat}{bx:List Value}{pI:Option Addr}{cI:Nat}(w:World)(hE:Tb w eb 59 bx)(h6:bx[6]? = some (.slice pI n cI))(h7:bx[7]? = some (.int .i64 (gv:Nat)))(hI:w.ownsRow B 84 2 (.slice pI n cI) n xs)(hB:B<=eb)(hg:gv<=n)(hn:n<=5000000000000)(hone:∀x y,xs[gv*2]? = some x->xs[gv*2+1]? = some y->(∃p,x=.pointer p)/\∃q,y=.pointer q) :
 Calls prog 34 #[.pointer (some ⟨eb,6,none⟩)] w (MA B eb n gv pI cI bx xs w):=by
 obtain⟨K,Y⟩:=O2 (w.alloc (.cells #[.pointer none,.pointer none] 84));have b5:Up w K:=by rw[<-Y];exact Oy _ _
 have a7:Tb K w.heap.size 84 [.pointer none,.pointer none]:=by rw[<-Y];exact Js
 have J:Tb K eb 59 bx:=(b5.block eb hE.bx.lt).trans hE;have E:K.ownsRow B 84 2 (.slice pI n cI) n xs:=by rw[<-Y];exact hI.alloc _
 have d2:=Hd Y;have c8:Hid (Ch B NoX [some 59] w K):=Ch.up _ _ _ b5;have a1:=Hd J;have d3:=Hd a7;have c6:=J.bx.cell 6;have c7:=J.bx.cell 7;rw[h6]at c6;rw[h7]at c7;have f6:=J.bx.fz 6;have f7:=J.bx.fz 7;obtain⟨x0,x1⟩:=a7.bx.c2;obtain⟨k0,k1⟩:=a7.bx.f2;have g5:eb<w.heap.size:=hE.bx.lt;have e5:n<=cI:=by
  rcases hI.2 with⟨h0,e0⟩|⟨g',V,cur,hv,_,_,hr,_⟩
  ·cases h0;omega
  cases hv;exact hr
 have d9:pI=none->cI=0:=fun e=>by
  rcases hI.2 with⟨h0,e0⟩|⟨g',V,cur,hv,_⟩
  ·cases h0;rfl
  cases hv;cases e
 have HEB:=Hd hB;have d1:Hid (Ix K eb∈[some 59]):=by unfold Hid;rw[J.ty];simp
 clear hE hI Y b5 a7 J
 by_cases b6:gv=n
 ·have z1:((gv:Int)==(n:Int))=true:=by rw[J2];omega
  have e2:=Hd b6;have G:=Hd ((a1.o.set 6 (.slice pI 0 cI)).set 7 (.int .i64 0));have R:Hid (Ch B NoX [some 59] w ((K.setCell ⟨eb,6,none⟩ (.slice pI 0 cI)).setCell ⟨eb,7,none⟩ (.int .i64 0))):=(c8.o.trans (Ch.set HEB.o (fun h=>h) d1.o)).trans (Ch.set HEB.o (fun h=>h) (by rw[(a1.o.set 6 (.slice pI 0 cI)).ty];simp));have e6:(pI=none/\cI=0)∨∃g,pI=some ⟨g,0,none⟩:=by
   rcases E.2 with⟨h0,e0⟩|⟨g',V,cur,hv,_⟩
   ·cases h0;exact .inl ⟨rfl,rfl⟩
   cases hv;exact .inr ⟨g',rfl⟩
  have O:w.heap.size≠eb:=by omega
  clear b6 E d9 e5
  rcases e6 with⟨rfl,rfl⟩|⟨gI,rfl⟩
  case' _=>
   obtain⟨W2,j⟩:=O2 ((K.setCell ⟨eb,6,none⟩ (.slice none 0 0)).setCell ⟨eb,7,none⟩ (.int .i64 0))
  rotate_left
  case' _=>
   obtain⟨W2,j⟩:=O2 ((K.setCell ⟨eb,6,none⟩ (.slice (some ⟨gI,0,none⟩) 0 cI)).setCell ⟨eb,7,none⟩ (.int .i64 0))
  rotate_left
  all_goals
   rw[j]at G R;have HR:=Hd (Wx (x:=.pointer none) (y:=.pointer none) G.o (by rw[<-j];exact I3 (I3 d3.o O) O) O R.o);have b0:=Hd j;clear j
   go_in
   go_upto_region 1 with fail
   rw[d2.o]
   go_region
   go_wp2_with fail
   rw[b0.o];obtain⟨W3,b4⟩:=O2 ((W2.setCell ⟨w.heap.size,0,none⟩ (.pointer none)).setCell ⟨w.heap.size,1,none⟩ (.pointer none));rw[b4]at HR ⊢;obtain⟨r0,r1,b3,b2⟩:=HR.o
   try simp only[Exit.inBlock,Exit.then]
   refine Jl (v:=.tuple #[.agg #[.pointer none,.pointer none],.bool false]) (by simp[results,results34,go_sem,r0,r1]) rfl ?_;exact .inl ⟨e2.o,rfl,b3,b2⟩
 have z1:((gv:Int)==(n:Int))=false:=by rw[Jc];omega
 have d8:gv<n:=by omega
 obtain⟨gI,rfl⟩:∃g,pI=some ⟨g,0,none⟩:=by
  rcases E.2 with⟨h0,e0⟩|⟨g',V,cur,hv,_⟩
  ·omega
  cases hv;exact⟨g',rfl⟩
 have e7:=E.1;obtain⟨x,hx⟩:∃x,xs[gv*2]? = some x:=⟨_,Jg (by omega)⟩;obtain⟨y,hy⟩:∃y,xs[gv*2+1]? = some y:=⟨_,Jg (by omega)⟩;have q0:=(E.cellAt (gv*2) (by omega)).trans hx;have q1:=(E.cellAt (gv*2+1) (by omega)).trans hy;have b7:=ZG E;have d5:gI≠eb:=fun e=>by subst e;rw[a1.o.ty]at b7;exact absurd b7.1 (by decide)
 have HX:=Hd hx;have HY:=Hd hy;have e3:=Hd d8;have G:=Hd (a1.o.set 7 (.int .i64 ((gv+1:Nat):Int)));have R:Hid (Ch B NoX [some 59] w (K.setCell ⟨eb,7,none⟩ (.int .i64 ((gv+1:Nat):Int)))):=c8.o.trans (Ch.set HEB.o (fun h=>h) d1.o);have O:w.heap.size≠eb:=by omega
 obtain⟨W2,j⟩:=O2 (K.setCell ⟨eb,7,none⟩ (.int .i64 ((gv+1:Nat):Int)));rw[j]at G R;have Z:Tb W2 w.heap.size 84 [.pointer none,.pointer none]:=by rw[<-j];exact I3 d3.o O
 have HR:=Hd (Wx (x:=x) (y:=y) G.o Z O R.o);have b0:Hid (K.setCell ⟨eb,7,none⟩ (.int .i64 ((gv:Int)+1))=W2):=by unfold Hid;rw[<-j];simp
 have p0:W2.cell? ⟨gI,gv*2,none⟩=some x:=by rw[<-j];exact(World.cell?_setCell_far K _ _ _ (by show eb≠gI;exact Ne.symm d5)).trans q0
 have p1:W2.cell? ⟨gI,gv*2+1,none⟩=some y:=by rw[<-j];exact(World.cell?_setCell_far K _ _ _ (by show eb≠gI;exact Ne.symm d5)).trans q1
 have d6:=G.o.bx.cell 6;have d7:=G.o.bx.cell 7;rw[Zg (by decide:(7:Nat)≠6),h6]at d6;rw[Vk (by have:=Zm.1 h7;exact this.1)]at d7;have u0:=Z.bx.c2.1;have u1:=Z.bx.c2.2;obtain⟨g0,g1⟩:=Z.bx.f2;have i1:(gv:Int)<(n:Int):=by omega
 have i2:decide (gv<n)=true:=Jb d8;obtain⟨⟨px,rfl⟩,qy,rfl⟩:=hone x y hx hy;have g7:IntKind.i64.wrap (gv:Int)=(gv:Int):=by rw[IntKind.wrap_i64];omega
 clear b6 E d9 hx hy e7 b7 j Z q0 q1
 go_in
 go_upto_region 1 with fail
 rw[d2.o]
 go_region
 go_upto_region 5 with fail
 rw[b0.o];clear c6 c7 f6 f7 x0 x1 k0 k1
 go_region
 all_goals (
  go_wp2_with fail
  obtain⟨W3,b4⟩:=O2 ((W2.setCell ⟨w.heap.size,0,none⟩ (.pointer px)).setCell ⟨w.heap.size,1,none⟩ (.pointer qy));rw[b4]at HR ⊢;obtain⟨r0,r1,b3,b2⟩:=HR.o
  try simp only[Exit.inBlock,Exit.then]
  refine Jl (v:=.tuple #[.agg #[.pointer px,.pointer qy],.bool true]) (by simp[results,results34,go_sem,r0,r1]) rfl ?_;exact .inr ⟨e3.o,⟨_,_,HX.o,HY.o,rfl⟩,b3,b2.drew⟩)
def two(y:Nat):List UInt8:=[UInt8.ofNat (y / 256),UInt8.ofNat y]
def Xh(l:List Nat):List UInt8:=l.flatMap two
theorem KR(l:List Nat)(y:Nat):Xh (l++[y])=Xh l++two y:=by simp[Xh]
theorem He(l:List Nat):(Xh l).length=2*l.length:=by
 induction l with
 | nil=>rfl
 | cons x r ih=>unfold Xh at ih ⊢;simp only[Zs,Jq,Yo,ih,two,Zp];omega
theorem CQ{x y:Nat}(hx:x<65536)(hy:y<65536)(h:two x=two y):x=y:=by
 unfold two at h;simp only[List.cons.injEq,and_true]at h;have j:=congrArg UInt8.toNat h.1;have q:=congrArg UInt8.toNat h.2;simp only[UInt8.toNat_ofNat']at j q;omega
theorem Db:∀ {l k:List Nat},(∀x∈l,x<65536)->(∀x∈k,x<65536)->Xh l=Xh k->l=k
 | [],[],_,_,_=>rfl
 | [],y::k,_,_,h=>by have:=congrArg List.length h;rw[He,He]at this;simp at this
 | x::l,[],_,_,h=>by have:=congrArg List.length h;rw[He,He]at this;simp at this
 | x::l,y::k,hl,hk,h=>by
   have q:two x++Xh l=two y++Xh k:=h
   have j:=List.append_inj q rfl
   rw[CQ (hl x (by simp)) (hk y (by simp)) j.1,Db (fun z hz=>hl z (by simp[hz])) (fun z hz=>hk z (by simp[hz])) j.2]
theorem IK(A:List UInt8)(y:Nat):Qr (A++two y)=Qr A++[.int .u8 ((y:Int) / 256 % 256),.int .u8 ((y:Int) % 256)]:=by
 unfold Qr two;rw[Yk];simp only[Za,Zq,UInt8.toNat_ofNat']
 congr 2
theorem Rs{A:List UInt8}(y:Nat)(w:World)(h:w.ownsRow B 5 1 v A.length (Qr A))(hB:B<=w.heap.size)(hm:A.length<=1000000) :
 Calls prog 59 #[v,.int .i64 (y:Nat)] w fun e w'=>∃g n c,e=.returned (.slice (some ⟨g,0,none⟩) n c)/\n=(A++two y).length/\w'.ownsRow B 5 1 (.slice (some ⟨g,0,none⟩) n c) (A++two y).length (Qr (A++two y))/\Ch B NoX [some 5] w w':=by
 obtain⟨i0,K,b0,b1,b2⟩:=info_parts Co;obtain⟨pI,cI,rfl⟩:∃p c,v=Value.slice p A.length c:=by
  rcases h.2 with⟨e,e2⟩|⟨g',b6,cur,e,_⟩
  ·exact⟨none,0,by rw[e,e2]⟩
  exact⟨_,_,e⟩
 obtain⟨O,q⟩:=O2 (w.alloc (.cells #[.int .u8 ((y:Int) / 256 % 256),.int .u8 ((y:Int) % 256)] 5));have a8:=Hd q;have J:Hid (O.ownsRow B 5 1 (.slice pI A.length cI) A.length (Qr A)):=by unfold Hid;rw[<-q];exact h.alloc _
 have R:Hid (Ch B NoX [some 5] w O):=by unfold Hid;rw[<-q];exact Ch.up _ _ _ (Oy _ _)
 have Y:Hid (∀j u,([.int .u8 ((y:Int) / 256 % 256),.int .u8 ((y:Int) % 256)]:List Value)[j]? = some u->O.cell? ((⟨w.heap.size,0,none⟩:Addr).add j)=some u):=by
  unfold Hid;rw[<-q];exact World.news_of_block (cs:=#[.int .u8 ((y:Int) / 256 % 256),.int .u8 ((y:Int) % 256)]) (t:=5) (fr:=(0,0)) (heap_alloc_new w _)
 have a1:Hid (O.heap.size=w.heap.size+1):=by unfold Hid;rw[<-q];simp
 have a7:=Hd (IK A y);clear h q
 go_in
 go_wp2_with (at_builtin;rw[a8.o];refine wpList_append_lies _ rfl _ _ 22 rfl B 5 i0 (.int .u8 0) 1 1 underlying22 K b0 b1 b2 rfl (by omega) (.slice pI A.length cI) A.length (Qr A) rfl J.o ⟨w.heap.size,0,none⟩ 2 2 [.int .u8 ((y:Int) / 256 % 256),.int .u8 ((y:Int) % 256)] rfl rfl Y.o ?c1 (by omega) (by unfold maxLen;omega) (by omega) (by rw[a1.o];omega) _ rfl ?_)
 case c1=>intro u hu;simp at hu;rcases hu with rfl|rfl<;>rfl
 intro g5 c5 w5 E G _ _;have Z:Hid (w5.ownsRow B 5 1 (.slice (some ⟨g5,0,none⟩) (A.length+2) c5) (A++two y).length (Qr (A++two y))):=by
  unfold Hid;rw[a7.o,Jq];exact E
 have V:=Hd (R.o.trans (Ch.grown (B:=B) (X:=NoX) (ts:=[some 5]) G J.o leR (fun _ _ h=>h) (by simp)));clear E G
 go_wp2
 go_ret
 exact⟨g5,A.length+2,c5,rfl,by simp[two],Z.o,V.o⟩
structure St where
 vt:Value
 t0:Int
 t1:Int
 vH:Value
 vU:Value
 vM:Value
 vI:Value
 gv:Nat
 sb:Nat
 vS:Value
 cl:Bool
 vC:Value
 vN:Value
 nI:Nat
 xI:List Value
 nS:Nat
 sg:List UInt8->Option Nat
 aS:List UInt8
 nC:Nat
 xC:List Value
 nN:Nat
 xN:List Value
def St.bx(s:St):List Value:=[s.vt,.int .i64 s.t0,.int .i64 s.t1,s.vH,s.vU,s.vM,s.vI,.int .i64 (s.gv:Nat),.map (some s.sb),s.vS,.bool s.cl,s.vC,s.vN]
structure Dyn(w:World)(B eb:Nat)(s:St):Prop where
 box:Tb w eb 59 s.bx
 low:B<=eb
 itm:w.ownsRow B 84 2 s.vI s.nI s.xI
 map:Ue w s.sb s.nS s.sg
 mlo:B<=s.sb
 sig:w.ownsRow B 5 1 s.vS s.aS.length (Qr s.aS)
 chg:w.ownsRow B 114 9 s.vC s.nC s.xC
 ent:w.ownsRow B 9 1 s.vN s.nN s.xN
theorem Ue.none{b:Nat}{f:List UInt8->Option Nat}(h:Ue w b n f):Ix w b=Option.none/\b<w.heap.size:=by
 obtain⟨D,⟨j,cl,hm,_⟩,_⟩:=h;exact⟨by unfold Ix;rw[hm],(Jo.1 hm).1⟩
theorem Ue.ch{X:Nat->Prop}{ts:List (Option TypeId)}{b:Nat}{f:List UInt8->Option Nat}(h:Ue w b n f)(hc:Ch B X ts w w')(hk:Option.none∉ts):Ue w' b n f:=by
 have e:=hc.block b h.none.2 (by rw[h.none.1];exact .inr (.inr hk));obtain⟨D,⟨j,cl,hm,E⟩,q⟩:=h;exact⟨D,⟨j,cl,e.trans hm,E⟩,q⟩
end Go.Proofs.YtfkagjelljnpdaaGreatDoor
