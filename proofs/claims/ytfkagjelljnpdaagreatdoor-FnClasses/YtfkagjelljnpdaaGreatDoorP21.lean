import Derived.Test.YtfkagjelljnpdaaGreatDoorP20
import Derived.WalkSmall
import Derived.Deep.RegionHeld3
import Derived.Maps.AppendAt
set_option linter.all false
set_option maxRecDepth 100000
set_option maxHeartbeats 8000000
namespace Go.Proofs.YtfkagjelljnpdaaGreatDoor
open ChangeShapes WideShapes ChangeAt RowKit
theorem QM(own:List UInt8->Bool){e:List UInt8}(h:e.take 7=U0):Oi own e=SI.none:=by
 have j:e.head? = some 40:=by
  cases e with
  | nil=>cases h
  | cons c r=>simp[U0]at h;simp[h.1]
 have q:e≠Ok:=fun h2=>by subst h2;exact absurd h (by decide)
 have h2:e≠Uu:=fun h2=>by subst h2;exact absurd h (by decide)
 have E:e≠Ui:=fun h2=>by subst h2;exact absurd h (by decide)
 have h4:¬ 0<K3 e:=fun h4=>by
  obtain⟨w,-,-,rfl,-⟩:=Ns h4;simp[Ex,F8,U0]at h
 unfold Oi;rw[if_neg q,if_neg h2,if_neg E,if_neg h4]
 cases hn:Ee e with
 | none=>rfl
 | some n=>
   exfalso
   rcases Ij hn with⟨hp,-⟩|⟨-,rfl⟩
   ·have:=(Fz hp).2 40 (List.mem_of_head? j);exact absurd this (by decide)
   simp at j
theorem GG(own:List UInt8->Bool){e:List UInt8}(h:Of (Oi own e)=true):Ou own e=Oi own e:=by
 unfold Ou;rw[if_neg];intro j;rw[QM own j]at h;exact absurd h (by decide)
theorem Fg(own:List UInt8->Bool){s:List UInt8}(ht:¬ s.take 7=U0):Ou own s=Oi own s:=by
 unfold Ou;rw[if_neg ht]
theorem ZR(own:List UInt8->Bool):RdOk (Ou own):=by
 have G:∀s,(s.take 7=U0/\s≠Ok/\s≠Uu/\s≠Ui/\(Ou own s=SI.none∨∃i e,Of (Oi own e)=true/\Ou own s=⟨6,0,i,e⟩))∨(s=Ok/\Ou own s=⟨1,0,[],[]⟩)∨(s=Uu/\Ou own s=⟨2,0,[],[]⟩)∨(s=Ui/\Ou own s=⟨3,0,[],[]⟩)∨(s≠Ok/\s≠Uu/\s≠Ui/\((∃w,0<w/\w<65/\Ou own s=⟨4,w,[],[]⟩)∨Ou own s=⟨5,0,[],[]⟩∨Ou own s=SI.none)):=by
  intro s
  by_cases q:s.take 7=U0
  ·refine .inl ⟨q,fun h2=>by subst h2;exact absurd q (by decide),fun h2=>by subst h2;exact absurd q (by decide),fun h2=>by subst h2;exact absurd q (by decide),?_⟩
   rcases Ht own q with h|⟨i,e,ha,h⟩
   ·exact .inl h
   exact .inr ⟨i,e,ha.2.2,h⟩
  rw[Fg own q];refine .inr ?_
  by_cases j:s=Ok
  ·exact .inl ⟨j,by unfold Oi;rw[if_pos j]⟩
  by_cases h2:s=Uu
  ·exact .inr (.inl ⟨h2,by unfold Oi;rw[if_neg j,if_pos h2]⟩)
  by_cases E:s=Ui
  ·exact .inr (.inr (.inl ⟨E,by unfold Oi;rw[if_neg j,if_neg h2,if_pos E]⟩))
  refine .inr (.inr (.inr ⟨j,h2,E,?_⟩))
  by_cases J:0<K3 s
  ·obtain⟨w,w0,w1,-,V⟩:=Ns J;exact .inl ⟨w,w0,w1,by unfold Oi;rw[if_neg j,if_neg h2,if_neg E,if_pos J,V]⟩
  refine .inr ?_;unfold Oi;rw[if_neg j,if_neg h2,if_neg E,if_neg J]
  cases Ee s with
  | none=>exact .inr rfl
  | some n=>
    simp only
    split
    ·exact .inl rfl
    exact .inr rfl
 have z:SI.none.kind=0/\SI.none.width=0/\SI.none.index=[]/\SI.none.elem=[]:=⟨rfl,rfl,rfl,rfl⟩;have Y:Ok≠Uu/\Ok≠Ui/\Uu≠Ui:=by decide
 refine⟨fun s=>?_,fun s=>?_,fun s=>?_,fun s=>?_,fun s=>?_,fun s=>?_,fun s=>?_,?_⟩
 case' _=>
  skip
 rotate_left
 case' _=>
  skip
 rotate_left
 case' _=>
  skip
 rotate_left
 case' _=>
  skip
 rotate_left
 case' _=>
  skip
 rotate_left
 case' _=>
  skip
 rotate_left
 ·rcases G s with⟨_,K,O,n3,h|⟨i,e,hp,h⟩⟩|⟨rfl,h⟩|⟨rfl,h⟩|⟨rfl,h⟩|⟨K,O,n3,⟨w,w0,w1,h⟩|h|h⟩<;>rw[h]<;>intro R
  ·exact absurd R (by decide)
  ·simp only;rw[GG own hp];have:=(Qt own e).1 hp;exact this.1
  all_goals exact absurd R (by simp[SI.none])
 ·rw[Fg own (by decide)];unfold Oi;rw[if_neg (by decide),if_neg (by decide),if_neg (by decide),if_neg (by decide)];rfl
 all_goals rcases G s with⟨_,K,O,n3,h|⟨i,e,_,h⟩⟩|⟨rfl,h⟩|⟨rfl,h⟩|⟨rfl,h⟩|⟨K,O,n3,⟨w,w0,w1,h⟩|h|h⟩<;>rw[h]<;>grind
end Go.Proofs.YtfkagjelljnpdaaGreatDoor
namespace Go.Proofs.YtfkagjelljnpdaaGreatDoor
open ChangeShapes WideShapes ChangeAt RowKit Proofs.Tryz
variable {F:List Fn}{S:List (List UInt8)}{T:List Tm}{fb gb kb n sb:Nat}{g:List UInt8->Option SI}{v v5 vF vS vT:Value}{w w':World}
structure Keep(w w':World):Prop where
 size:w.heap.size<=w'.heap.size
 cell:∀p v,w.cell? p=some v->w'.cell? p=some v
theorem S9{b:Nat}{p:Addr}(h:KM w b n g)(hc:w.cell? p=some v):p.block≠b:=by
 intro e;obtain⟨D,⟨j,cl,hm,E⟩,q⟩:=h;unfold World.cell? at hc;rw[e,hm]at hc;cases hc
theorem Bar.keep(hb:Bar gb w w')(h:KM w gb n g):Keep w w':=
 ⟨hb.size,fun p v hc=>by rw[hb.cell (J3 w _ hc) (S9 h hc)];exact hc⟩
theorem Below.keep(hb:Up w w'):Keep w w':=
 ⟨hb.size,fun p v hc=>by rw[hb.cell (J3 w _ hc)];exact hc⟩
theorem O4.keep{L:List (List UInt8)}(h:O4 w v L)(hb:Keep w w'):O4 w' v L:=by
 obtain⟨p,c,rfl,q,E,j⟩:=h;refine⟨p,c,rfl,q,E,?_⟩
 rcases j with j|⟨b,e,hl,G⟩
 ·exact .inl j
 exact .inr ⟨b,e,Jn hl hb.size,fun i hi=>hb.cell _ _ (G i hi)⟩
theorem IntsAt.keep{L:List Int}(h:IntsAt w v L)(hb:Keep w w'):IntsAt w' v L:=by
 obtain⟨p,c,rfl,q,E,j⟩:=h;refine⟨p,c,rfl,q,E,?_⟩
 rcases j with j|⟨b,e,hl,G⟩
 ·exact .inl j
 exact .inr ⟨b,e,Jn hl hb.size,fun i hi=>hb.cell _ _ (G i hi)⟩
theorem Em.keep(h:Em w v F)(hb:Keep w w'):Em w' v F:=by
 obtain⟨p,c,rfl,q,E,j⟩:=h;refine⟨p,c,rfl,q,E,?_⟩
 rcases j with j|⟨b,e,hl,G⟩
 ·exact .inl j
 refine .inr ⟨b,e,Jn hl hb.size,fun i hi=>?_⟩;obtain⟨J,⟨va,K,ha⟩,k2⟩:=G i hi;exact⟨hb.cell _ _ J,⟨va,hb.cell _ _ K,ha.keep hb⟩,hb.cell _ _ k2⟩
theorem TermsAt.keep(h:TermsAt w v T)(hb:Keep w w'):TermsAt w' v T:=by
 obtain⟨p,c,rfl,q,E,j⟩:=h;refine⟨p,c,rfl,q,E,?_⟩
 rcases j with j|⟨b,e,hl,G⟩
 ·exact .inl j
 refine .inr ⟨b,e,Jn hl hb.size,fun i hi=>?_⟩;obtain⟨J,K,k2,k3,k4,va,k5,ha⟩:=G i hi;exact⟨hb.cell _ _ J,hb.cell _ _ K,hb.cell _ _ k2,hb.cell _ _ k3,hb.cell _ _ k4,va,hb.cell _ _ k5,ha.keep hb⟩
theorem EV.keep(h:EV w)(hb:Keep w w'):EV w':=by
 obtain⟨⟨j,c1,E⟩,q,c2,k2⟩:=h;exact⟨⟨j,hb.cell _ _ c1,E⟩,q,hb.cell _ _ c2,k2⟩
def RT(w:World):Prop:=∀i (h:i<rules.length),w.cell? ⟨0,i*7,none⟩=some (.int .u8 (rules[i].last:Nat))/\w.cell? ⟨0,i*7+1,none⟩=some (.int .u8 (rules[i].least:Nat))/\w.cell? ⟨0,i*7+2,none⟩=some (.int .u8 (rules[i].most:Nat))/\w.cell? ⟨0,i*7+3,none⟩=some (.int .u8 (rules[i].sort:Nat))/\w.cell? ⟨0,i*7+4,none⟩=some (.int .u8 (rules[i].r0:Nat))/\w.cell? ⟨0,i*7+5,none⟩=some (.int .u8 (rules[i].r1:Nat))/\w.cell? ⟨0,i*7+6,none⟩=some (.int .u8 (rules[i].r2:Nat))
theorem RT.keep(h:RT w)(hb:Keep w w'):RT w':=fun i hi=>by
 obtain⟨j,q,k2,k3,k4,k5,k6⟩:=h i hi
 exact⟨hb.cell _ _ j,hb.cell _ _ q,hb.cell _ _ k2,hb.cell _ _ k3,hb.cell _ _ k4,hb.cell _ _ k5,hb.cell _ _ k6⟩
theorem Gk.bar{b c:Nat}{f:List UInt8->Option Nat}(h:Gk w b f)(hb:Bar c w w')(hc:b≠c):Gk w' b f:=by
 obtain⟨n,D,hn,⟨q,cl,hm,G⟩,E⟩:=h;have j:b<w.heap.size:=(Jo.1 hm).1;exact⟨n,D,hn,⟨q,cl,(hb.block b j hc).trans hm,G⟩,E⟩
structure BK(w:World)(kb sb fb gb n:Nat)(S:List (List UInt8))(F:List Fn)(T:List Tm)(vS vF vT v5:Value)(g:List UInt8->Option SI):Prop where
 box:Bx w kb [vS,vF,vT,.map (some sb),.map (some fb),v5,.map (some gb)]
 sm:Gk w sb (Og S)
 fm:Gk w fb (Ox F)
 fr:Em w vF F
 tr:TermsAt w vT T
 km:KM w gb n g
 ok:VT (Og S) g
 ev:EV w
 rt:RT w
 ns:sb≠gb
 nf:fb≠gb
theorem BK.bar{n':Nat}{g':List UInt8->Option SI}(h:BK w kb sb fb gb n S F T vS vF vT v5 g)(hb:Bar gb w w')(hk:KM w' gb n' g')(ho:VT (Og S) g'):BK w' kb sb fb gb n' S F T vS vF vT v5 g':=by
 have j:=hb.keep h.km;have q:kb≠gb:=S9 h.km (h.box.cell 0);exact⟨h.box.bar hb q,h.sm.bar hb h.ns,h.fm.bar hb h.nf,h.fr.keep j,h.tr.keep j,hk,ho,h.ev.keep j,h.rt.keep j,h.ns,h.nf⟩
theorem BK.next(h:BK w kb sb fb gb n S F T vS vF vT v5 g)(hb:Up w w'):BK w' kb sb fb gb n S F T vS vF vT v5 g:=
 h.bar (Bar.of hb) (h.km.low hb h.km.lt) h.ok
def Ow(w w':World)(kb sb fb gb n:Nat)(S:List (List UInt8))(F:List Fn)(T:List Tm)(vS vF vT v5:Value)(m:Nat):Prop:=∃n' g',n'<=n+m/\BK w' kb sb fb gb n' S F T vS vF vT v5 g'/\Bar gb w w'
theorem Ow.of(h:BK w kb sb fb gb n S F T vS vF vT v5 g)(hb:Up w w')(m:Nat):Ow w w' kb sb fb gb n S F T vS vF vT v5 m:=
 ⟨n,g,Vs _ _,h.next hb,Bar.of hb⟩
theorem ask_sort(h:BK w kb sb fb gb n S F T vS vF vT v5 g)(s:ByteArray)(hs:s.size<=1048576)(hn:n<=1000000000) :
 Calls prog 122 #[.pointer (some ⟨kb,0,none⟩),.string s] w fun e w'=>e=.returned (Gu (Ou (Oh (Og S)) s.data.toList))/\Ow w w' kb sb fb gb n S F T vS vF vT v5 1:=by
 refine(Fl kb sb gb n (Og S) g s w hs hn h.ev h.box.c7.2.2.2.1 h.box.c7.2.2.2.2.2.2 h.sm h.sm.lt h.km h.ok).mono ?_;rintro e w' ⟨j,rfl,q,E,hb⟩;exact⟨rfl,n+1,j,leR,h.bar hb q E,hb⟩
theorem A5(h:BK w kb sb fb gb n S F T vS vF vT v5 g)(r:Int)(hr:0<=r/\r<=255)(s:ByteArray)(hs:s.size<=1048576)(hn:n<=1000000000) :
 Calls prog 124 #[.pointer (some ⟨kb,0,none⟩),.int .u8 r,.string s] w fun e w'=>e=.returned (.bool (Ot r (Ou (Oh (Og S)) s.data.toList).kind))/\Ow w w' kb sb fb gb n S F T vS vF vT v5 1:=by
 refine(Ae kb sb gb n (Og S) g r hr s w hs hn h.ev h.box.c7.2.2.2.1 h.box.c7.2.2.2.2.2.2 h.sm h.sm.lt h.km h.ok).mono ?_;rintro e w' ⟨j,rfl,q,E,hb⟩;exact⟨rfl,n+1,j,leR,h.bar hb q E,hb⟩
theorem Ba(hc:w.cell? ⟨kb,2,none⟩=some vT)(hT:TermsAt w vT T)(t:Tm)(vk:Value)(hk:IntsAt w vk t.kids)(i:Nat)(hi:i<t.kids.length)(hx:0<=t.kids[i]/\t.kids[i]<(T.length:Int))(hn:T.length<=1000000)(_hl:t.kids.length<=1000000) :
 Calls prog 145 #[.pointer (some ⟨kb,0,none⟩),G6 t vk,.int .i64 (i:Nat)] w fun e w'=>∃pa la ca,e=.returned (G6 (tmAt T t.kids[i]) (.slice pa la ca))/\Up w w':=by
 obtain⟨p,c,rfl,h1,h2,h3⟩:=hT;obtain⟨q,d,rfl,k1,k2,k3⟩:=hk
 rcases h3 with h0|⟨b,rfl,hb,K⟩
 ·rw[h0]at hx;simp at hx;omega
 rcases k3 with k0|⟨O,rfl,a7,G⟩
 ·rw[k0]at hi;simp at hi
 have R:=G i hi;have hy:=K (t.kids[i].toNat) (by omega);have Y:Hid (tmAt T t.kids[i]=T[t.kids[i].toNat]'(by omega)):=by
  unfold Hid tmAt;rw[Jg (by omega)];rfl
 generalize T[t.kids[i].toNat]'(by omega)=u at hy Y;generalize t.kids[i]=x at R hy hx Y ⊢;obtain⟨c0,c1,c2,c3,c4,va,c5,pa,ca,rfl,-,-,-⟩:=hy;obtain⟨y,rfl⟩:∃y:Nat,x=(y:Int):=⟨x.toNat,by omega⟩;simp only[Y7]at c0 c1 c2 c3 c4 c5;obtain⟨d4,J⟩:=hx;have a8:kb<w.heap.size:=J3 w _ hc;have i0:(0:Int)<=(i:Int):=by omega
 have i1:(i:Int)<(t.kids.length:Int):=by omega
 unfold maxLen at h2 k2;clear K G;unfold G6
 go_in
 go_wp2_with fail
 obtain⟨W2,E⟩:=O2 ((w.alloc (.cells #[.int .i64 t.op,.string (Oo t.sort),.string (Oo t.text),.int .i64 t.a,.int .i64 t.b,.slice (some ⟨O,0,none⟩) t.kids.length d] 38)).alloc (.cells #[.int .i64 0,.string ⟨#[]⟩,.string ⟨#[]⟩,.int .i64 0,.int .i64 0,.slice none 0 0] 38));have hb2:Up w W2:=by rw[<-E];exact((Ji _ _).alloc leR _).alloc (by rw[Ju];omega) _
 have J:Bx W2 w.heap.size [.int .i64 t.op,.string (Oo t.sort),.string (Oo t.text),.int .i64 t.a,.int .i64 t.b,.slice (some ⟨O,0,none⟩) t.kids.length d]:=by rw[<-E];exact(Oq w _ _).alloc _
 have j:Bx W2 (w.heap.size+1) [.int .i64 0,.string ⟨#[]⟩,.string ⟨#[]⟩,.int .i64 0,.int .i64 0,.slice none 0 0]:=by rw[<-E];have h:=Oq (w.alloc (.cells #[.int .i64 t.op,.string (Oo t.sort),.string (Oo t.text),.int .i64 t.a,.int .i64 t.b,.slice (some ⟨O,0,none⟩) t.kids.length d] 38)) [.int .i64 0,.string ⟨#[]⟩,.string ⟨#[]⟩,.int .i64 0,.int .i64 0,.slice none 0 0] 38;rw[Ju]at h;exact h
 rw[E];clear E;have R:=(hb2.cell (p:=⟨O,i,none⟩) a7).trans R;have c0:=(hb2.cell (p:=⟨b,y*6,none⟩) hb).trans c0;have c1:=(hb2.cell (p:=⟨b,y*6+1,none⟩) hb).trans c1;have c2:=(hb2.cell (p:=⟨b,y*6+2,none⟩) hb).trans c2;have c3:=(hb2.cell (p:=⟨b,y*6+3,none⟩) hb).trans c3;have c4:=(hb2.cell (p:=⟨b,y*6+4,none⟩) hb).trans c4;have c5:=(hb2.cell (p:=⟨b,y*6+5,none⟩) hb).trans c5;have hc:=(hb2.cell (p:=⟨kb,2,none⟩) a8).trans hc;have t5:=J.cell 5;have r0:=j.cell 0;have r1:=j.cell 1;have r2:=j.cell 2;have r3:=j.cell 3;have r4:=j.cell 4;have r5:=j.cell 5;simp only[Jr,Jy]at t5 r0 r1 r2 r3 r4 r5;obtain⟨f0,f1,f2,f3,f4,f5⟩:=j.f6;have V:=Hd hb2;have Z:=Hd j;clear J j hb2
 go_region
 have hx:=(((((Z.o.set 0 (.int .i64 u.op)).set 1 (.string (Oo u.sort))).set 2 (.string (Oo u.text))).set 3 (.int .i64 u.a)).set 4 (.int .i64 u.b)).set 5 (.slice pa u.kids.length ca);have e0:=hx.cell 0;have e1:=hx.cell 1;have e2:=hx.cell 2;have e3:=hx.cell 3;have e4:=hx.cell 4;have e5:=hx.cell 5;simp only[Je,Jf,Jr,Jy]at e0 e1 e2 e3 e4 e5;clear r0 r1 r2 r3 r4 r5 f0 f1 f2 f3 f4 f5 hx R c0 c1 c2 c3 c4 c5
 go_wp2_with fail
 have hq:w.heap.size<=w.heap.size+1:=by omega
 refine Jl (v:=.agg #[.int .i64 u.op,.string (Oo u.sort),.string (Oo u.text),.int .i64 u.a,.int .i64 u.b,.slice pa u.kids.length ca]) ?_ rfl ⟨pa,u.kids.length,ca,by rw[Y.o],((((((V.o.setCell (p:=⟨w.heap.size+1,0,none⟩) hq _).setCell (p:=⟨w.heap.size+1,1,none⟩) hq _).setCell (p:=⟨w.heap.size+1,2,none⟩) hq _).setCell (p:=⟨w.heap.size+1,3,none⟩) hq _).setCell (p:=⟨w.heap.size+1,4,none⟩) hq _).setCell (p:=⟨w.heap.size+1,5,none⟩) hq _).drew⟩;simp[results,results145,go_sem,e0,e1,e2,e3,e4,e5]
theorem YV(kb fb:Nat)(F:List Fn)(f2:List UInt8->Option Nat)(v1:Value)(t:Tm)(p:Option Addr)(cp:Nat)(w:World)(hc1:w.cell? ⟨kb,1,none⟩=some v1)(hF:Em w v1 F)(hc4:w.cell? ⟨kb,4,none⟩=some (.map (some fb)))(hm:Gk w fb f2)(hlt:∀s i,f2 s=some i->i<F.length)(_hn:F.length<=1000)(hs:t.text.length<=1048576)(_hkl:t.kids.length<=1000000)(hkb:kb<w.heap.size) :
 Calls prog 140 #[.pointer (some ⟨kb,0,none⟩),G6 t (.slice p t.kids.length cp)] w fun e w'=>e=.returned (.bool (Nx F f2 t))/\Up w w':=by
 unfold G6;have a8:=hm.lt;obtain⟨q,cq,rfl,b5,b6,Y⟩:=hF;have HQ:=Hd Y;have hT:(Oo t.text).size<=1048576:=by show t.text.toArray.size<=_;simpa using hs
 have K:=hm.bl (Oy w (.cells #[.int .i64 t.op,.string (Oo t.sort),.string (Oo t.text),.int .i64 t.a,.int .i64 t.b,.slice p t.kids.length cp] 38)) a8;obtain⟨c,Z,h⟩:=GB (w:=(w.alloc (.cells #[.int .i64 t.op,.string (Oo t.sort),.string (Oo t.text),.int .i64 t.a,.int .i64 t.b,.slice p t.kids.length cp] 38)).drew) (K.bl (Ji _ _).drew K.lt) (Oo t.text) hT;rw[Ov]at Z h;clear K hm Y;have E:Hid (Up w (w.alloc (.cells #[.int .i64 t.op,.string (Oo t.sort),.string (Oo t.text),.int .i64 t.a,.int .i64 t.b,.slice p t.kids.length cp] 38)).drew):=(Oy w _).drew
 cases J:f2 t.text with
 | none=>
   have G:Hid (Nx F f2 t=false):=by unfold Hid Nx;rw[J]
   rw[J]at h;simp only[Vy]at h;clear Z J
   go_in
   go_wp2
   go_region
   clear h
   go_wp2
   go_quiet (fail)
   go_wp2
   go_ret
   exact⟨Oz G.o.symm,below_drewN E.o _⟩
 | some i=>
   obtain rfl:=Z i J;have hi:i<F.length:=hlt _ i J
   rcases HQ.o with h0|⟨b,rfl,b4,V⟩
   ·rw[h0]at hi;cases hi
   obtain⟨k0,⟨va,k1,pa,ca,rfl,b3,a7,-⟩,k2⟩:=V i hi;have G:Hid (Nx F f2 t=(decide (F[i].args.length=t.kids.length)&&decide (F[i].sort=t.sort))):=by unfold Hid Nx;rw[J];simp only;rw[Jg hi]
   rw[J]at h;simp only[Option.isSome_some]at h;clear Z hlt HQ V J k0;generalize F[i]=x at *;have b7:x.args.length<=9223372036854775807:=by unfold maxLen at a7;omega
   have j0:(0:Int)<=(i:Int):=by omega
   have j1:(i:Int)<(F.length:Int):=by omega
   go_in
   go_wp2
   go_region
   clear h
   by_cases R:(x.args.length:Int)=(t.kids.length:Int)
   ·have y1:((x.args.length:Int)==(t.kids.length:Int))=true:=by simp[R]
    by_cases O:x.sort=t.sort
    ·have y2:((Oo x.sort).toList==(Oo t.sort).toList)=true:=by simp[O]
     have j:Hid (Nx F f2 t=true):=by unfold Hid;rw[G.o,Jb (by omega),Jb O];rfl
     clear R O G
     go_wp2
     go_quiet (fail)
     go_wp2
     go_ret
     exact⟨Oz j.o.symm,below_drewN E.o _⟩
    have y2:((Oo x.sort).toList==(Oo t.sort).toList)=false:=by rw[Jk,Jk,Ov,Ov];simp[O]
    have j:Hid (Nx F f2 t=false):=by unfold Hid;rw[G.o,Jd O,Y6]
    clear R O G
    go_wp2
    go_quiet (fail)
    go_wp2
    go_ret
    exact⟨Oz j.o.symm,below_drewN E.o _⟩
   have y1:((x.args.length:Int)==(t.kids.length:Int))=false:=by rw[Jc];exact R
   have j:Hid (Nx F f2 t=false):=by unfold Hid;rw[G.o,Jd (by omega)];rfl
   clear R G
   go_wp2
   go_quiet (fail)
   go_wp2
   go_ret
   exact⟨Oz j.o.symm,below_drewN E.o _⟩
def Rc(r:Rule):Value:=.agg #[.int .u8 (r.last:Nat),.int .u8 (r.least:Nat),.int .u8 (r.most:Nat),.int .u8 (r.sort:Nat),.int .u8 (r.r0:Nat),.int .u8 (r.r1:Nat),.int .u8 (r.r2:Nat)]
def Mw:Rule:=⟨0,0,0,0,0,0,0⟩
theorem Hw:∀r∈rules,r.last<=47/\r.least<=50/\r.most<=50/\r.sort<=20/\r.r0<=20/\r.r1<=20/\r.r2<=20:=by decide
theorem Wy{o:Int}(h:∀j (h:j<rules.length),(rules[j].last:Int)<o):Kk o=none:=by
 unfold Kk
 split
 ·rfl
 rw[List.find?_eq_none];intro r E;obtain⟨j,q,rfl⟩:=Ya E;have:=h j q;simp;omega
theorem ZB{o:Int}(h:o<=0):Kk o=none:=by unfold Kk;rw[if_pos h]
theorem Wz{o:Int}{k:Nat}(ho:0<o)(hk:k<rules.length)(h:∀j (h:j<rules.length),j<k->(rules[j].last:Int)<o)(h2:o<=(rules[k].last:Int)):Kk o=some rules[k]:=by
 unfold Kk;rw[if_neg (by omega),List.find?_eq_some_iff_getElem];refine⟨by simpa using h2,k,hk,rfl,fun j hj=>?_⟩;have:=h j (by omega) hj;simp;omega
theorem Bx.set7{W:World}{g:Nat}{a0 a1 a2 a3 a4 a5 a6:Value}(h:Bx W g [a0,a1,a2,a3,a4,a5,a6])(v0 v1 v2 v3 v4 v5 v6:Value):Bx (((((((W.setCell ⟨g,0,none⟩ v0).setCell ⟨g,1,none⟩ v1).setCell ⟨g,2,none⟩ v2).setCell ⟨g,3,none⟩ v3).setCell ⟨g,4,none⟩ v4).setCell ⟨g,5,none⟩ v5).setCell ⟨g,6,none⟩ v6) g [v0,v1,v2,v3,v4,v5,v6]:=((((((h.set 0 v0).set 1 v1).set 2 v2).set 3 v3).set 4 v4).set 5 v5).set 6 v6
theorem Df{B:Nat}{W:World}(h:Below B w W){g:Nat}(hg:B<=g)(v0 v1 v2 v3 v4 v5 v6:Value):Below B w (((((((W.setCell ⟨g,0,none⟩ v0).setCell ⟨g,1,none⟩ v1).setCell ⟨g,2,none⟩ v2).setCell ⟨g,3,none⟩ v3).setCell ⟨g,4,none⟩ v4).setCell ⟨g,5,none⟩ v5).setCell ⟨g,6,none⟩ v6):=
 ((((((h.setCell (p:=⟨g,0,none⟩) hg _).setCell (p:=⟨g,1,none⟩) hg _).setCell (p:=⟨g,2,none⟩) hg _).setCell (p:=⟨g,3,none⟩) hg _).setCell (p:=⟨g,4,none⟩) hg _).setCell (p:=⟨g,5,none⟩) hg _).setCell (p:=⟨g,6,none⟩) hg _
theorem ZA(o:Int)(w:World)(hrt:RT w) :
 Calls prog 123 #[.int .i64 o] w fun e w'=>e=.returned (.tuple #[Rc ((Kk o).getD Mw),.bool (Kk o).isSome])/\Up w w':=by
 have V:0<w.heap.size:=J3 w _ (hrt 0 (by decide)).1;have e9:=Hd hrt;clear hrt;have HX:Hid (Bx (w.alloc (.cells #[.int .u8 0,.int .u8 0,.int .u8 0,.int .u8 0,.int .u8 0,.int .u8 0,.int .u8 0] 177)) w.heap.size [.int .u8 0,.int .u8 0,.int .u8 0,.int .u8 0,.int .u8 0,.int .u8 0,.int .u8 0]):=Oq w _ _;have J:Hid (Up w (w.alloc (.cells #[.int .u8 0,.int .u8 0,.int .u8 0,.int .u8 0,.int .u8 0,.int .u8 0,.int .u8 0] 177))):=Oy _ _
 go_in
 go_wp2_with fail
 obtain⟨W1,d8⟩:=O2 (w.alloc (.cells #[.int .u8 0,.int .u8 0,.int .u8 0,.int .u8 0,.int .u8 0,.int .u8 0,.int .u8 0] 177));rw[d8]at HX J ⊢;clear d8;obtain⟨a0,a1,a2,a3,a4,a5,a6⟩:=HX.o.c7;obtain⟨f0,f1,f2,f3,f4,f5,f6⟩:=HX.o.f7
 go_loop [4] (fun i=>∃k:Nat,k<=25/\i=.int .i64 (k:Nat)/\∀j (h:j<rules.length),j<k->(rules[j].last:Int)<o) (fun i=>25 - (intOf i).toNat)
 case atStart=>exact⟨0,Jp _,rfl,fun j _ h=>absurd h (Jz _)⟩
 obtain⟨k,hk,rfl,hp⟩:=hrel;have HP:=Hd hp;clear hp
 by_cases q:¬ (k<25/\0<o)
 ·have HN:Hid (Kk o=none):=by
   by_cases h0:o<=0
   ·exact ZB h0
   exact Wy (fun j hj=>HP.o j hj (by have:rules.length=25:=rfl;omega))
  have O:=Hd (HX.o.set7 (.int .u8 0) (.int .u8 0) (.int .u8 0) (.int .u8 0) (.int .u8 0) (.int .u8 0) (.int .u8 0));have K:=Hd (Df J.o leR (.int .u8 0) (.int .u8 0) (.int .u8 0) (.int .u8 0) (.int .u8 0) (.int .u8 0) (.int .u8 0))
  by_cases R:k<25
  ·have g5:o<=0:=by omega
   have i1:(k:Int)<25:=by omega
   clear q
   go_wp2_with fail
   obtain⟨e0,e1,e2,e3,e4,e5,e6⟩:=O.o.c7;refine Jl (v:=.tuple #[Rc Mw,.bool false]) ?_ rfl ⟨by rw[HN.o];rfl,K.o⟩;clear a0 a1 a2 a3 a4 a5 a6 f0 f1 f2 f3 f4 f5 f6;simp[results,results123,go_sem,e0,e1,e2,e3,e4,e5,e6,Rc,Mw]
  have g3:(25:Int)<=(k:Int):=by omega
  clear q R
  go_wp2_with fail
  obtain⟨e0,e1,e2,e3,e4,e5,e6⟩:=O.o.c7;refine Jl (v:=.tuple #[Rc Mw,.bool false]) ?_ rfl ⟨by rw[HN.o];rfl,K.o⟩;clear a0 a1 a2 a3 a4 a5 a6 f0 f1 f2 f3 f4 f5 f6;simp[results,results123,go_sem,e0,e1,e2,e3,e4,e5,e6,Rc,Mw]
 have q:=Decidable.not_not.1 q;obtain⟨R,h0⟩:=q;have Y:k<rules.length:=R;obtain⟨b0,b1,b2,b3,b4,b5,b6⟩:=e9.o k Y;have b0:=(J.o.cell (p:=⟨0,k*7,none⟩) V).trans b0;have b1:=(J.o.cell (p:=⟨0,k*7+1,none⟩) V).trans b1;have b2:=(J.o.cell (p:=⟨0,k*7+2,none⟩) V).trans b2;have b3:=(J.o.cell (p:=⟨0,k*7+3,none⟩) V).trans b3;have b4:=(J.o.cell (p:=⟨0,k*7+4,none⟩) V).trans b4;have b5:=(J.o.cell (p:=⟨0,k*7+5,none⟩) V).trans b5;have b6:=(J.o.cell (p:=⟨0,k*7+6,none⟩) V).trans b6;have Z:=Hw _ (Jj Y);have G:Hid (o<=(rules[k].last:Int)->Kk o=some rules[k]):=fun h=>Wz h0 Y HP.o h;have E:Hid (¬ o<=(rules[k].last:Int)->∀j (h:j<rules.length),j<k+1->(rules[j].last:Int)<o):=fun h j hj h2=>by
  rcases J4.1 h2 with h3|rfl
  ·exact HP.o j hj h3
  omega
 generalize rules[k]=r at b0 b1 b2 b3 b4 b5 b6 Z G E;obtain⟨la,le,mo,so,r0,r1,r2⟩:=r;simp only at b0 b1 b2 b3 b4 b5 b6 Z G E;obtain⟨g7,-⟩:=Z;have i1:(k:Int)<25:=by omega
 have i2:(0:Int)<=(k:Int):=by omega
 have i3:(la:Int)<=255:=by omega
 have i4:(0:Int)<=(la:Int):=by omega
 by_cases d9:o<=(la:Int)
 ·have HF:=Hd (G.o d9);have O:=Hd (HX.o.set7 (.int .u8 (la:Nat)) (.int .u8 (le:Nat)) (.int .u8 (mo:Nat)) (.int .u8 (so:Nat)) (.int .u8 (r0:Nat)) (.int .u8 (r1:Nat)) (.int .u8 (r2:Nat)));have K:=Hd (Df J.o leR (.int .u8 (la:Nat)) (.int .u8 (le:Nat)) (.int .u8 (mo:Nat)) (.int .u8 (so:Nat)) (.int .u8 (r0:Nat)) (.int .u8 (r1:Nat)) (.int .u8 (r2:Nat)));obtain⟨e0,e1,e2,e3,e4,e5,e6⟩:=O.o.c7
  go_wp2_with fail
  refine Jl (v:=.tuple #[Rc ⟨la,le,mo,so,r0,r1,r2⟩,.bool true]) ?_ rfl ⟨by rw[HF.o];rfl,K.o⟩;clear a0 a1 a2 a3 a4 a5 a6 f0 f1 f2 f3 f4 f5 f6 b0 b1 b2 b3 b4 b5 b6;simp[results,results123,go_sem,e0,e1,e2,e3,e4,e5,e6,Rc]
 have HN:=Hd (E.o d9)
 go_wp2
 go_round
 case rel=>exact⟨k+1,by omega,by go_num,HN.o⟩
 simp[intOf];omega
end Go.Proofs.YtfkagjelljnpdaaGreatDoor
namespace Go.Proofs.YtfkagjelljnpdaaGreatDoor
open ChangeShapes WideShapes ChangeAt RowKit
variable {M N g:Nat}{W w wx:World}{tm:List Value}{y:SI}
theorem En(own:List UInt8->Bool)(s:List UInt8):(Ou own s).width<=64:=by
 by_cases j:s.take 7=U0
 ·rcases Ht own j with h|⟨i,e,_,h⟩<;>rw[h]<;>exact Jp _
 unfold Ou;rw[if_neg j];unfold Oi
 split
 ·exact Jp _
 split
 ·exact Jp _
 split
 ·exact Jp _
 split
 ·rename_i h;obtain⟨w,_,q,_,E⟩:=Ns h;simp only;omega
 split
 ·split
  ·exact Jp _
  exact Jp _
 exact Jp _
theorem Fu(own:List UInt8->Bool)(ks:List (List UInt8))(i:Nat):(Np (Ou own) ks i).width<=64:=by
 unfold Np
 split
 ·exact En _ _
 exact Jp _
theorem Ez(a b:List UInt8):(a=b/\((Oo a).toList==(Oo b).toList)=true)∨(a≠b/\((Oo a).toList==(Oo b).toList)=false):=by
 rw[Jk,Jk,Ov,Ov]
 by_cases h:a=b
 ·exact .inl ⟨h,by simp[h]⟩
 exact .inr ⟨h,by simp[h]⟩
theorem Uz(a b:List UInt8):(a=b/\((Oo a).toList==b)=true)∨(a≠b/\((Oo a).toList==b)=false):=by
 rw[Jk,Ov]
 by_cases h:a=b
 ·exact .inl ⟨h,by simp[h]⟩
 exact .inr ⟨h,by simp[h]⟩
theorem Ki(a b:Int):(a=b/\(a==b)=true)∨(a≠b/\(a==b)=false):=by
 by_cases h:a=b
 ·exact .inl ⟨h,by simp[h]⟩
 exact .inr ⟨h,by simp[h]⟩
theorem UN(a b:Int):(a<b/\decide (a<b)=true)∨(¬ a<b/\decide (a<b)=false):=by
 by_cases h:a<b
 ·exact .inl ⟨h,by simp[h]⟩
 exact .inr ⟨h,by simp[h]⟩
theorem Pf(a b:Int):(a<=b/\decide (a<=b)=true)∨(¬ a<=b/\decide (a<=b)=false):=by
 by_cases h:a<=b
 ·exact .inl ⟨h,by simp[h]⟩
 exact .inr ⟨h,by simp[h]⟩
def IP(X:SI):List Value:=[.int .i64 X.kind,.int .i64 (X.width:Nat),.string (Oo X.index),.string (Oo X.elem)]
structure Wd(wx:World)(N M:Nat)(bk tm:List Value)(s x y:SI)(w:World):Prop where
 bank:Bx wx N bk
 term:Bx wx (N+1) tm
 s:Bx wx M (IP s)
 x:Bx wx (M+1) (IP x)
 y:Bx wx (M+1+1) (IP y)
 le:N+2<=M
 bel:Below N w wx
def Ld(W:World)(g:Nat)(X:SI):World:=(((W.setCell ⟨g,0,none⟩ (.int .i64 X.kind)).setCell ⟨g,1,none⟩ (.int .i64 (X.width:Nat))).setCell ⟨g,2,none⟩ (.string (Oo X.index))).setCell ⟨g,3,none⟩ (.string (Oo X.elem))
theorem EX{X:SI}{k:Nat}(h:k≠g):(Ld W g X).heap[k]? = W.heap[k]? := by
 unfold Ld;rw[Jh _ _ _ _ h,Jh _ _ _ _ h,Jh _ _ _ _ h,Jh _ _ _ _ h]
theorem Bx.other4{b:Nat}{l:List Value}(h:Bx W b l)(hne:b≠g)(X:SI):Bx (Ld W g X) b l:=by
 obtain⟨t,h⟩:=h;exact⟨t,by rw[EX hne];exact h⟩
theorem Bx.same4{Y:SI}(h:Bx W g (IP Y))(X:SI):Bx (Ld W g X) g (IP X):=(((h.set 0 (.int .i64 X.kind)).set 1 (.int .i64 (X.width:Nat))).set 2 (.string (Oo X.index))).set 3 (.string (Oo X.elem))
theorem Dc{B:Nat}(h:Below B w W)(hg:B<=g)(X:SI):Below B w (Ld W g X):=
 (((h.setCell (p:=⟨g,0,none⟩) hg _).setCell (p:=⟨g,1,none⟩) hg _).setCell (p:=⟨g,2,none⟩) hg _).setCell (p:=⟨g,3,none⟩) hg _
theorem Wd.bl{wy:World}{bk:List Value}{s x:SI}(h:Wd wx N M bk tm s x y w)(hb:Up wx wy):Wd wy N M bk tm s x y w:=
 ⟨h.bank.bl h.bank.lt hb,h.term.bl h.term.lt hb,h.s.bl h.s.lt hb,h.x.bl h.x.lt hb,h.y.bl h.y.lt hb,h.le,h.bel.trans (hb.mono (by have:=h.bank.lt;omega))⟩
theorem Wd.setx{bk:List Value}{s x:SI}(h:Wd wx N M bk tm s x y w)(X:SI):Wd (Ld wx (M+1) X) N M bk tm s X y w:=by
 have:=h.le;exact⟨h.bank.other4 (by omega) X,h.term.other4 (by omega) X,h.s.other4 (by omega) X,h.x.same4 X,h.y.other4 (by omega) X,h.le,Dc h.bel (by omega) X⟩
theorem Wd.sety{bk:List Value}{s x:SI}(h:Wd wx N M bk tm s x y w)(X:SI):Wd (Ld wx (M+1+1) X) N M bk tm s x X w:=by
 have:=h.le;exact⟨h.bank.other4 (by omega) X,h.term.other4 (by omega) X,h.s.other4 (by omega) X,h.x.other4 (by omega) X,h.y.same4 X,h.le,Dc h.bel (by omega) X⟩
theorem Wd.drew{bk:List Value}{s x:SI}(h:Wd wx N M bk tm s x y w):Wd wx.drew N M bk tm s x y w:=h.bl ⟨rfl,rfl,rfl,leR,fun _ _=>rfl⟩
end Go.Proofs.YtfkagjelljnpdaaGreatDoor
namespace Go.Proofs.YtfkagjelljnpdaaGreatDoor
open ChangeShapes WideShapes ChangeAt RowKit Proofs.Tryz
variable {F:List Fn}{L S:List (List UInt8)}{T:List Tm}{fb gb kb m n sb:Nat}{v5 vF vS vT:Value}{w w':World}
theorem Ow.after{w1:World}(h:Ow w1 w' kb sb fb gb n S F T vS vF vT v5 m)(hb:Up w w1):Ow w w' kb sb fb gb n S F T vS vF vT v5 m:=by
 obtain⟨n',j,q,E,G⟩:=h;exact⟨n',j,q,E,(Bar.of hb).trans G⟩
theorem Ow.next{w1:World}(h:Ow w w1 kb sb fb gb n S F T vS vF vT v5 m)(hb:Up w1 w'):Ow w w' kb sb fb gb n S F T vS vF vT v5 m:=by
 obtain⟨n',j,q,E,G⟩:=h;exact⟨n',j,q,E.next hb,G.trans (Bar.of hb)⟩
theorem Ow.more{m':Nat}(h:Ow w w' kb sb fb gb n S F T vS vF vT v5 m)(hm:m<=m'):Ow w w' kb sb fb gb n S F T vS vF vT v5 m':=by
 obtain⟨n',j,G,q,E⟩:=h;exact⟨n',j,by omega,q,E⟩
theorem FY(X:SI)(W:World):(Instr.field 145 (Gu X) 1).run prog W=.ok (.int .i64 (X.width:Nat)) W/\(Instr.field 145 (Gu X) 2).run prog W=.ok (.string (Oo X.index)) W/\(Instr.field 145 (Gu X) 3).run prog W=.ok (.string (Oo X.elem)) W:=by
 unfold Instr.field Gu
 go_simp
 exact⟨rfl,rfl,rfl⟩
theorem OW{t:Tm}(h:Di n t=true)(i:Nat)(hi:i<t.kids.length):0<=t.kids[i]/\t.kids[i]<(n:Int):=by
 have:=Jx.1 h t.kids[i] (Jj hi)
 simpa using this
theorem Fm(hz:∀u∈T,u.sort.length<=1048576)(x:Int):(tmAt T x).sort.length<=1048576:=by
 unfold tmAt
 cases h:T[x.toNat]? with
 | none=>exact Jp _
 | some u=>exact hz u (Zb h)
theorem YQ{t:Tm}{i:Nat}(hi:i<t.kids.length):(t.kids[i]?).getD 0=t.kids[i]:=by rw[Jg hi];rfl
theorem Bb{g:List UInt8->Option SI}(h:BK w kb sb fb gb n S F T vS vF vT v5 g)(t:Tm)(vk:Value)(hk:IntsAt w vk t.kids)(hr:Di T.length t=true)(i:Nat)(hi:i<t.kids.length)(hT:T.length<=1000000)(hl:t.kids.length<=1000000)(hz:∀u∈T,u.sort.length<=1048576)(hn:n<=1000000000) :
 Calls prog 144 #[.pointer (some ⟨kb,0,none⟩),G6 t vk,.int .i64 (i:Nat)] w fun e w'=>e=.returned (.int .i64 ((Ou (Oh (Og S)) (tmAt T ((t.kids[i]?).getD 0)).sort).width:Nat))/\Ow w w' kb sb fb gb n S F T vS vF vT v5 1:=by
 rw[YQ hi];obtain⟨G,E,rfl,Y,Z,q⟩:=hk;have J:=Hd h;have HI:Hid (IntsAt w (.slice G t.kids.length E) t.kids):=⟨G,E,rfl,Y,Z,q⟩;have HX:=Hd (OW hr i hi);have HZ:=Hd (Fm hz t.kids[i]);clear h q hr hz;have HB:Hid (Up w (w.alloc (.cells #[.int .i64 t.op,.string (Oo t.sort),.string (Oo t.text),.int .i64 t.a,.int .i64 t.b,.slice G t.kids.length E] 38))):=Oy _ _;have HC:Hid (∀W,Up w W->Calls prog 145 #[.pointer (some ⟨kb,0,none⟩),.agg #[.int .i64 t.op,.string (Oo t.sort),.string (Oo t.text),.int .i64 t.a,.int .i64 t.b,.slice G t.kids.length E],.int .i64 (i:Nat)] W fun e w'=>∃pa la ca,e=.returned (G6 (tmAt T t.kids[i]) (.slice pa la ca))/\Up W w'):=fun W hW=>Ba (J.o.next hW).box.c7.2.2.1 (J.o.next hW).tr t _ (HI.o.bl hW) i hi HX.o hT hl;unfold G6
 go_in
 go_wp2_with fail
 refine(HC.o _ HB.o).mono ?_;obtain⟨u,V⟩:=O2 (tmAt T t.kids[i]);have HU:=Hd V;rw[V]at HZ ⊢;clear V;rintro e w2 ⟨pa,la,ca,rfl,hb2⟩;have j:=HB.up hb2;clear hb2;have hf:=(MH u (.slice pa la ca) w2).2.1;have R:(Oo u.sort).size<=1048576:=by show u.sort.toArray.size<=_;simpa using HZ.o
 unfold G6 at hf ⊢
 go_wp2_with fail
 refine(ask_sort (J.o.next j.o) (Oo u.sort) R hn).mono ?_;rw[Ov];obtain⟨X,O⟩:=O2 (Ou (Oh (Og S)) u.sort);have K:=Hd O;rw[O];clear O;rintro e w3 ⟨rfl,ha⟩;have HA:=Hd (ha.after j.o);clear ha;have hg:=(FY X w3).1;unfold Gu at hg ⊢
 go_wp2
 go_ret
 exact⟨O8 (by rw[HU.o,K.o]),HA.o⟩
theorem VZ{b:Nat}{f:List UInt8->Option Nat}(h:Gk w b f)(s:ByteArray)(hs:s.size<=1048576):∀i,f s.data.toList=some i->(Instr.lookup 56 (.map (some b)) (.string s) false).run prog w=.ok (.int .i64 (i:Nat)) w:=by
 intro i O;obtain⟨n,D,hn,j,J⟩:=h;have Y:(zeroValue 3).run prog w=.ok (.int .i64 0) w:=rfl;obtain⟨v,Z,q,R⟩:=j.lookup G2 underlying56 Y (plainElem_int underlying3 (by decide)) (Eo s (by unfold maxLen;omega));obtain⟨c,rfl,K,V⟩:=plainElem_int_inv underlying3 R;have G:=(J s.data.toList).2 i O;have E:=congrArg Prod.fst K;rw[G]at E;simp at E;rw[q,E]
theorem S8{g:List UInt8->Option SI}(h:BK w kb sb fb gb n S F T vS vF vT v5 g)(t:Tm)(vk:Value)(hk:IntsAt w vk t.kids)(hr:Di T.length t=true)(r i:Nat)(hr20:r<=20)(hi:i<t.kids.length)(hT:T.length<=1000000)(hl:t.kids.length<=1000000)(_hF:F.length<=1000)(hz:∀u∈T,u.sort.length<=1048576)(htx:t.text.length<=1048576)(hn:n<=1000000000)(hcall:r=14->Nx F (Ox F) t=true) :
 Calls prog 127 #[.pointer (some ⟨kb,0,none⟩),.int .u8 (r:Nat),G6 t vk,.int .i64 (i:Nat)] w fun e w'=>e=.returned (.bool (V9 (Ou (Oh (Og S))) F (Ox F) T t r i))/\Ow w w' kb sb fb gb n S F T vS vF vT v5 1:=by
 obtain⟨qk,dk,rfl,j9,k0,h3⟩:=hk;have HH:=Hd h;have HI:Hid (IntsAt w (.slice qk t.kids.length dk) t.kids):=⟨qk,dk,rfl,j9,k0,h3⟩;have f5:0<t.kids.length:=by omega
 have HX:=Hd (OW hr i hi);have h9:=Hd (OW hr 0 f5);have HZ:=Hd (Fm hz t.kids[i]);have g1:=Hd (Fm hz t.kids[0]);have h8:=Hd hcall;have j6:(r:Int)<=255:=by omega
 clear h h3 hr hz hcall;have HB:Hid (Up w (w.alloc (.cells #[.int .i64 t.op,.string (Oo t.sort),.string (Oo t.text),.int .i64 t.a,.int .i64 t.b,.slice qk t.kids.length dk] 38))):=Oy _ _;have e1:Hid (Bx (w.alloc (.cells #[.int .i64 t.op,.string (Oo t.sort),.string (Oo t.text),.int .i64 t.a,.int .i64 t.b,.slice qk t.kids.length dk] 38)) w.heap.size [.int .i64 t.op,.string (Oo t.sort),.string (Oo t.text),.int .i64 t.a,.int .i64 t.b,.slice qk t.kids.length dk]):=Oq _ _ _;have HC:Hid (∀W,Up w W->Calls prog 145 #[.pointer (some ⟨kb,0,none⟩),.agg #[.int .i64 t.op,.string (Oo t.sort),.string (Oo t.text),.int .i64 t.a,.int .i64 t.b,.slice qk t.kids.length dk],.int .i64 (i:Nat)] W fun e w'=>∃pa la ca,e=.returned (G6 (tmAt T t.kids[i]) (.slice pa la ca))/\Up W w'):=fun W hW=>Ba (HH.o.next hW).box.c7.2.2.1 (HH.o.next hW).tr t _ (HI.o.bl hW) i hi HX.o hT hl;have d3:Hid (∀W,Up w W->Calls prog 145 #[.pointer (some ⟨kb,0,none⟩),.agg #[.int .i64 t.op,.string (Oo t.sort),.string (Oo t.text),.int .i64 t.a,.int .i64 t.b,.slice qk t.kids.length dk],.int .i64 0] W fun e w'=>∃pa la ca,e=.returned (G6 (tmAt T t.kids[0]) (.slice pa la ca))/\Up W w'):=fun W hW=>Ba (HH.o.next hW).box.c7.2.2.1 (HH.o.next hW).tr t _ (HI.o.bl hW) 0 f5 h9.o hT hl;have l5:Hid (V9 (Ou (Oh (Og S))) F (Ox F) T t r i=V9 (Ou (Oh (Og S))) F (Ox F) T t r i):=rfl;obtain⟨u,hu⟩:=O2 (tmAt T t.kids[i]);obtain⟨u0,f8⟩:=O2 (tmAt T t.kids[0]);have HU:Hid (tmAt T ((t.kids[i]?).getD 0)=u/\tmAt T ((t.kids[0]?).getD 0)=u0):=by unfold Hid;rw[YQ hi,YQ f5];exact⟨hu,f8⟩
 rw[hu]at HZ HC;rw[f8]at g1 d3;clear hu f8;have g9:(Oo u.sort).size<=1048576:=by show u.sort.toArray.size<=_;simpa using HZ.o
 have d8:(Oo u0.sort).size<=1048576:=by show u0.sort.toArray.size<=_;simpa using g1.o
 unfold G6
 go_in
 go_wp2_with fail
 refine(HC.o _ HB.o).mono ?_;rintro e w2 ⟨pa,la,ca,rfl,hb2⟩;have d9:=HB.up hb2;have HY:=Hd (e1.o.bl e1.o.lt hb2);clear hb2;have q:Hid (Up w (w2.alloc (.cells #[.int .i64 u.op,.string (Oo u.sort),.string (Oo u.text),.int .i64 u.a,.int .i64 u.b,.slice pa la ca] 38))):=d9.o.alloc d9.o.size _;have d4:=Hd (HY.o.alloc (.cells #[.int .i64 u.op,.string (Oo u.sort),.string (Oo u.text),.int .i64 u.a,.int .i64 u.b,.slice pa la ca] 38));have d5:Hid (Bx (w2.alloc (.cells #[.int .i64 u.op,.string (Oo u.sort),.string (Oo u.text),.int .i64 u.a,.int .i64 u.b,.slice pa la ca] 38)) w2.heap.size [.int .i64 u.op,.string (Oo u.sort),.string (Oo u.text),.int .i64 u.a,.int .i64 u.b,.slice pa la ca]):=Oq _ _ _;unfold G6
 go_upto_block 0 with fail
 obtain⟨W3,g5⟩:=O2 (w2.alloc (.cells #[.int .i64 u.op,.string (Oo u.sort),.string (Oo u.text),.int .i64 u.a,.int .i64 u.b,.slice pa la ca] 38));rw[g5]at q d4 d5 ⊢;clear g5;obtain⟨t0,t1,t2,t3,t4,t5⟩:=d4.o.k6;obtain⟨x0,x1,x2⟩:=d5.o.k3;have b3:Hid (∀W,Up W3 W->(W.cell? ⟨w.heap.size,0,none⟩=some (.int .i64 t.op)/\W.cell? ⟨w.heap.size,1,none⟩=some (.string (Oo t.sort))/\W.cell? ⟨w.heap.size,2,none⟩=some (.string (Oo t.text))/\W.cell? ⟨w.heap.size,3,none⟩=some (.int .i64 t.a)/\W.cell? ⟨w.heap.size,4,none⟩=some (.int .i64 t.b)/\W.cell? ⟨w.heap.size,5,none⟩=some (.slice qk t.kids.length dk)/\W.cell? ⟨w2.heap.size,1,none⟩=some (.string (Oo u.sort)))):=fun W hW=>by
  have h1:=d4.o.bl d4.o.lt hW;have h2:=d5.o.bl d5.o.lt hW;exact⟨h1.cell 0,h1.cell 1,h1.cell 2,h1.cell 3,h1.cell 4,h1.cell 5,h2.cell 1⟩
 have V:Hid (∀W,Up w W->Ow w W kb sb fb gb n S F T vS vF vT v5 1):=fun W hW=>Ow.of HH.o hW 1;have e2:Hid (∀W,Bar gb W3 W->(W.cell? ⟨w.heap.size,0,none⟩=some (.int .i64 t.op)/\W.cell? ⟨w.heap.size,1,none⟩=some (.string (Oo t.sort))/\W.cell? ⟨w.heap.size,2,none⟩=some (.string (Oo t.text))/\W.cell? ⟨w.heap.size,3,none⟩=some (.int .i64 t.a)/\W.cell? ⟨w.heap.size,4,none⟩=some (.int .i64 t.b)/\W.cell? ⟨w.heap.size,5,none⟩=some (.slice qk t.kids.length dk)/\W.cell? ⟨w2.heap.size,1,none⟩=some (.string (Oo u.sort)))):=fun W hW=>by
  have hk:=hW.keep (HH.o.next q.o).km;exact⟨hk.cell _ _ t0,hk.cell _ _ t1,hk.cell _ _ t2,hk.cell _ _ t3,hk.cell _ _ t4,hk.cell _ _ t5,hk.cell _ _ x1⟩
 clear d9 HY e1 HB
 by_cases e3:r=12
 ·subst e3;have K:Hid (V9 (Ou (Oh (Og S))) F (Ox F) T t 12 i=(decide (u.sort=t.sort))):=by unfold Hid V9;simp only;rw[HU.o.1,HU.o.2];rfl
  rcases Ez u.sort t.sort with⟨E,q0⟩|⟨E,q0⟩
  ·have G:Hid (V9 (Ou (Oh (Og S))) F (Ox F) T t 12 i=true):=by unfold Hid;rw[K.o,Jb E]
   clear E
   go_wp2
   go_ret
   exact⟨Oz G.o.symm,V.o _ q.o⟩
  have G:Hid (V9 (Ou (Oh (Og S))) F (Ox F) T t 12 i=false):=by unfold Hid;rw[K.o,Jd E]
  clear E
  go_wp2
  go_ret
  exact⟨Oz G.o.symm,V.o _ q.o⟩
 by_cases e4:r=13
 ·subst e4;have K:Hid (V9 (Ou (Oh (Og S))) F (Ox F) T t 13 i=(decide (u.sort=u0.sort))):=by unfold Hid V9;simp only;rw[HU.o.1,HU.o.2];rfl
  have f1:=b3.o W3 (Ji _ _)
  rcases Ez u.sort u0.sort with⟨E,q0⟩|⟨E,q0⟩
  case' _=>
   have G:Hid (V9 (Ou (Oh (Og S))) F (Ox F) T t 13 i=true):=by unfold Hid;rw[K.o,Jb E]
  rotate_left
  case' _=>
   have G:Hid (V9 (Ou (Oh (Og S))) F (Ox F) T t 13 i=false):=by unfold Hid;rw[K.o,Jd E]
  rotate_left
  all_goals
   clear E
   go_wp2
   go_region_held3 (fun W=>W.cell? ⟨w.heap.size,0,none⟩=some (.int .i64 t.op)/\W.cell? ⟨w.heap.size,1,none⟩=some (.string (Oo t.sort))/\W.cell? ⟨w.heap.size,2,none⟩=some (.string (Oo t.text))/\W.cell? ⟨w.heap.size,3,none⟩=some (.int .i64 t.a)/\W.cell? ⟨w.heap.size,4,none⟩=some (.int .i64 t.b)/\W.cell? ⟨w.heap.size,5,none⟩=some (.slice qk t.kids.length dk)/\W.cell? ⟨w2.heap.size,1,none⟩=some (.string (Oo u.sort))) (first
    | assumption|go_keep) (first
    | (go_at_call 145;refine(d3.o W3.drew q.o.drew).mono ?_;rintro e w6 ⟨pb,lb,cb,rfl,J⟩;have O:Hid (Up W3 w6):=⟨J.os,J.tape,J.output,J.size,J.block⟩;have g3:=b3.o w6 O.o;clear J;have d1:=fun W=>(MH u0 (.slice pb lb cb) W).2.1;unfold G6 at d1 ⊢))
   all_goals (go_wp2;go_ret;exact⟨Oz G.o.symm,V.o _ (q.o.trans (O.o.mono q.o.size))⟩)
 by_cases e5:r=14
 ·subst e5;have Z:=h8.o rfl;obtain⟨j,x,hj,hx,m8⟩:∃j x,Ox F t.text=some j/\F[j]? = some x/\x.args.length=t.kids.length:=by
   unfold Nx at Z
   cases hj:Ox F t.text with
   | none=>rw[hj]at Z;cases Z
   | some j=>
     rw[hj]at Z;simp only at Z
     cases hx:F[j]? with
     | none=>rw[hx]at Z;cases Z
     | some x=>
       rw[hx]at Z;simp only[Jw,J1]at Z;exact⟨j,x,rfl,hx,Z.1⟩
  have d7:j<F.length:=by
   rw[Zm]at hx;exact hx.1
  have d6:i<x.args.length:=by omega
  have K:Hid (V9 (Ou (Oh (Og S))) F (Ox F) T t 14 i=decide (u.sort=x.args[i])):=by
   unfold Hid V9;simp only;rw[HU.o.1,hj,Option.bind_some,hx,Option.bind_some,Jg d6];simp
  have b7:=HH.o.next q.o;have a1:=b7.box.c7.2.1;have a4:=b7.box.c7.2.2.2.2.1;obtain⟨pf,cf,rfl,m6,j4,j5⟩:=b7.fr;unfold maxLen at j4
  rcases j5 with e0|⟨bf,rfl,m5,g8⟩
  ·rw[e0]at d7;cases d7
  obtain⟨-,⟨va,k1,h0⟩,-⟩:=g8 j d7;have ex:F[j]=x:=by
   rw[Jg d7]at hx;exact Option.some.inj hx
  rw[ex]at h0;obtain⟨m9,l7,rfl,l9,i7,i8⟩:=h0;unfold maxLen at i7
  rcases i8 with e0|⟨ba,rfl,m0,g6⟩
  ·rw[e0]at d6;cases d6
  have k2:=g6 i d6;have j7:(Oo t.text).size<=1048576:=by show t.text.toArray.size<=_;simpa using htx
  have m7:∀m,(Instr.lookup 56 (.map (some fb)) (.string (Oo t.text)) false).run prog (W3.drewN m)=.ok (.int .i64 (j:Nat)) (W3.drewN m):=fun m=>by
   have h:=VZ (b7.fm.bl (below_drewN (Ji _ _) m) b7.fm.lt) (Oo t.text) j7;rw[Ov,hj]at h;exact h j rfl
  have j0:(0:Int)<=(j:Int):=by omega
  have j1:(j:Int)<(F.length:Int):=by omega
  have j2:(0:Int)<=(i:Int):=by omega
  have j3:(i:Int)<(x.args.length:Int):=by omega
  clear g8 g6 b7 hx ex hj Z
  rcases Ez u.sort x.args[i]with⟨E,q0⟩|⟨E,q0⟩
  case' _=>
   have G:Hid (V9 (Ou (Oh (Og S))) F (Ox F) T t 14 i=true):=by unfold Hid;rw[K.o,Jb E]
  rotate_left
  case' _=>
   have G:Hid (V9 (Ou (Oh (Og S))) F (Ox F) T t 14 i=false):=by unfold Hid;rw[K.o,Jd E]
  rotate_left
  all_goals
   clear E;generalize x.args[i]=ya at k2 q0
   go_wp2
   go_quiet (fail)
   go_wp2
   go_ret
   exact⟨Oz G.o.symm,V.o _ (below_drewN q.o _)⟩
 by_cases e6:r=15
 ·subst e6;have K:Hid (V9 (Ou (Oh (Og S))) F (Ox F) T t 15 i=(decide (u.sort=t.sort)&&decide (u.op=12))):=by unfold Hid V9;simp only;rw[HU.o.1,HU.o.2];rfl
  rcases Ez u.sort t.sort with⟨E,q0⟩|⟨E,q0⟩
  ·rcases Ki u.op 12 with⟨p1,q1⟩|⟨p1,q1⟩
   ·have G:Hid (V9 (Ou (Oh (Og S))) F (Ox F) T t 15 i=true):=by unfold Hid;rw[K.o,Jb E,Jb p1];rfl
    clear E p1
    go_wp2
    go_ret
    exact⟨Oz G.o.symm,V.o _ q.o⟩
   have G:Hid (V9 (Ou (Oh (Og S))) F (Ox F) T t 15 i=false):=by unfold Hid;rw[K.o,Jb E,Jd p1];rfl
   clear E p1
   go_wp2
   go_ret
   exact⟨Oz G.o.symm,V.o _ q.o⟩
  have G:Hid (V9 (Ou (Oh (Og S))) F (Ox F) T t 15 i=false):=by unfold Hid;rw[K.o,Jd E];rfl
  clear E
  go_wp2
  go_ret
  exact⟨Oz G.o.symm,V.o _ q.o⟩
 by_cases e7:r=16
 ·subst e7;have K:Hid (V9 (Ou (Oh (Og S))) F (Ox F) T t 16 i=(decide (u.sort=t.sort)&&decide (u.op=12)&&decide (u.text≠[48]))):=by unfold Hid V9;simp only;rw[HU.o.1,HU.o.2];rfl
  rcases Ez u.sort t.sort with⟨E,q0⟩|⟨E,q0⟩
  ·rcases Ki u.op 12 with⟨p1,q1⟩|⟨p1,q1⟩
   ·rcases Uz u.text [48]with⟨p2,q2⟩|⟨p2,q2⟩
    ·have G:Hid (V9 (Ou (Oh (Og S))) F (Ox F) T t 16 i=false):=by unfold Hid;rw[K.o,Jb E,Jb p1,Jd (fun h=>h p2)];rfl
     clear E p1 p2
     go_wp2
     go_ret
     exact⟨Oz G.o.symm,V.o _ q.o⟩
    have G:Hid (V9 (Ou (Oh (Og S))) F (Ox F) T t 16 i=true):=by unfold Hid;rw[K.o,Jb E,Jb p1,Jb p2];rfl
    clear E p1 p2
    go_wp2
    go_ret
    exact⟨Oz G.o.symm,V.o _ q.o⟩
   have G:Hid (V9 (Ou (Oh (Og S))) F (Ox F) T t 16 i=false):=by unfold Hid;rw[K.o,Jb E,Jd p1];rfl
   clear E p1
   go_wp2
   go_ret
   exact⟨Oz G.o.symm,V.o _ q.o⟩
  have G:Hid (V9 (Ou (Oh (Og S))) F (Ox F) T t 16 i=false):=by unfold Hid;rw[K.o,Jd E];rfl
  clear E
  go_wp2
  go_ret
  exact⟨Oz G.o.symm,V.o _ q.o⟩
 by_cases e8:r=17
 ·subst e8;have K:Hid (V9 (Ou (Oh (Og S))) F (Ox F) T t 17 i=(decide ((Ou (Oh (Og S)) u.sort).elem=t.sort))):=by unfold Hid V9;simp only;rw[HU.o.1,HU.o.2];rfl
  obtain⟨X,hX⟩:=O2 (Ou (Oh (Og S)) u.sort);have c8:=Hd hX;rw[hX]at K;clear hX;have f1:=b3.o W3 (Ji _ _)
  rcases Ez X.elem t.sort with⟨E,q0⟩|⟨E,q0⟩
  case' _=>
   have G:Hid (V9 (Ou (Oh (Og S))) F (Ox F) T t 17 i=true):=by unfold Hid;rw[K.o,Jb E]
  rotate_left
  case' _=>
   have G:Hid (V9 (Ou (Oh (Og S))) F (Ox F) T t 17 i=false):=by unfold Hid;rw[K.o,Jd E]
  rotate_left
  all_goals
   clear E
   go_wp2
   go_region_held3 (fun W=>W.cell? ⟨w.heap.size,0,none⟩=some (.int .i64 t.op)/\W.cell? ⟨w.heap.size,1,none⟩=some (.string (Oo t.sort))/\W.cell? ⟨w.heap.size,2,none⟩=some (.string (Oo t.text))/\W.cell? ⟨w.heap.size,3,none⟩=some (.int .i64 t.a)/\W.cell? ⟨w.heap.size,4,none⟩=some (.int .i64 t.b)/\W.cell? ⟨w.heap.size,5,none⟩=some (.slice qk t.kids.length dk)/\W.cell? ⟨w2.heap.size,1,none⟩=some (.string (Oo u.sort))) (first
    | assumption|go_keep) (first
    | (go_at_call 122;refine(ask_sort (HH.o.next q.o.drew) (Oo u.sort) g9 hn).mono ?_;rw[Ov,c8.o];rintro e w7 ⟨rfl,Y⟩;have b2:=Hd (Y.after q.o.drew);obtain⟨n7,g7,-,-,R⟩:=Y;have g4:=e2.o w7 ⟨R.os,R.tape,R.output,R.size,R.block⟩;clear R;have a7:=fun W=>(FY X W).2.1;have a8:=fun W=>(FY X W).2.2;unfold Gu at a7 a8 ⊢))
   all_goals (go_wp2;go_ret;exact⟨Oz G.o.symm,b2.o⟩)
 by_cases e9:r=18
 ·subst e9;have K:Hid (V9 (Ou (Oh (Og S))) F (Ox F) T t 18 i=(decide ((Ou (Oh (Og S)) u0.sort).index=u.sort))):=by unfold Hid V9;simp only;rw[HU.o.1,HU.o.2];rfl
  obtain⟨X,hX⟩:=O2 (Ou (Oh (Og S)) u0.sort);have c8:=Hd hX;rw[hX]at K;clear hX;have f1:=b3.o W3 (Ji _ _)
  rcases Ez X.index u.sort with⟨E,q0⟩|⟨E,q0⟩
  case' _=>
   have G:Hid (V9 (Ou (Oh (Og S))) F (Ox F) T t 18 i=true):=by unfold Hid;rw[K.o,Jb E]
  rotate_left
  case' _=>
   have G:Hid (V9 (Ou (Oh (Og S))) F (Ox F) T t 18 i=false):=by unfold Hid;rw[K.o,Jd E]
  rotate_left
  all_goals
   clear E
   go_wp2
   go_region_held3 (fun W=>W.cell? ⟨w.heap.size,0,none⟩=some (.int .i64 t.op)/\W.cell? ⟨w.heap.size,1,none⟩=some (.string (Oo t.sort))/\W.cell? ⟨w.heap.size,2,none⟩=some (.string (Oo t.text))/\W.cell? ⟨w.heap.size,3,none⟩=some (.int .i64 t.a)/\W.cell? ⟨w.heap.size,4,none⟩=some (.int .i64 t.b)/\W.cell? ⟨w.heap.size,5,none⟩=some (.slice qk t.kids.length dk)/\W.cell? ⟨w2.heap.size,1,none⟩=some (.string (Oo u.sort))) (first
    | assumption|go_keep) (first
    | (go_at_call 145;refine(d3.o W3.drew q.o.drew).mono ?_;rintro e w6 ⟨pb,lb,cb,rfl,J⟩;have O:Hid (Up W3 w6):=⟨J.os,J.tape,J.output,J.size,J.block⟩;have g3:=b3.o w6 O.o;clear J;have d1:=fun W=>(MH u0 (.slice pb lb cb) W).2.1;unfold G6 at d1 ⊢)
    | (go_at_call 122;refine(ask_sort (HH.o.next (q.o.trans (O.o.mono q.o.size))) (Oo u0.sort) d8 hn).mono ?_;rw[Ov,c8.o];rintro e w7 ⟨rfl,Y⟩;have b2:=Hd (Y.after (q.o.trans (O.o.mono q.o.size)));obtain⟨n7,g7,-,-,R⟩:=Y;have g4:=e2.o w7 ((Bar.of O.o).trans R);clear R;have a7:=fun W=>(FY X W).2.1;have a8:=fun W=>(FY X W).2.2;unfold Gu at a7 a8 ⊢))
   all_goals (go_wp2;go_ret;exact⟨Oz G.o.symm,b2.o⟩)
 by_cases f0:r=19
 ·subst f0;have K:Hid (V9 (Ou (Oh (Og S))) F (Ox F) T t 19 i=(decide ((Ou (Oh (Og S)) u0.sort).elem=u.sort))):=by unfold Hid V9;simp only;rw[HU.o.1,HU.o.2];rfl
  obtain⟨X,hX⟩:=O2 (Ou (Oh (Og S)) u0.sort);have c8:=Hd hX;rw[hX]at K;clear hX;have f1:=b3.o W3 (Ji _ _)
  rcases Ez X.elem u.sort with⟨E,q0⟩|⟨E,q0⟩
  case' _=>
   have G:Hid (V9 (Ou (Oh (Og S))) F (Ox F) T t 19 i=true):=by unfold Hid;rw[K.o,Jb E]
  rotate_left
  case' _=>
   have G:Hid (V9 (Ou (Oh (Og S))) F (Ox F) T t 19 i=false):=by unfold Hid;rw[K.o,Jd E]
  rotate_left
  all_goals
   clear E
   go_wp2
   go_region_held3 (fun W=>W.cell? ⟨w.heap.size,0,none⟩=some (.int .i64 t.op)/\W.cell? ⟨w.heap.size,1,none⟩=some (.string (Oo t.sort))/\W.cell? ⟨w.heap.size,2,none⟩=some (.string (Oo t.text))/\W.cell? ⟨w.heap.size,3,none⟩=some (.int .i64 t.a)/\W.cell? ⟨w.heap.size,4,none⟩=some (.int .i64 t.b)/\W.cell? ⟨w.heap.size,5,none⟩=some (.slice qk t.kids.length dk)/\W.cell? ⟨w2.heap.size,1,none⟩=some (.string (Oo u.sort))) (first
    | assumption|go_keep) (first
    | (go_at_call 145;refine(d3.o W3.drew q.o.drew).mono ?_;rintro e w6 ⟨pb,lb,cb,rfl,J⟩;have O:Hid (Up W3 w6):=⟨J.os,J.tape,J.output,J.size,J.block⟩;have g3:=b3.o w6 O.o;clear J;have d1:=fun W=>(MH u0 (.slice pb lb cb) W).2.1;unfold G6 at d1 ⊢)
    | (go_at_call 122;refine(ask_sort (HH.o.next (q.o.trans (O.o.mono q.o.size))) (Oo u0.sort) d8 hn).mono ?_;rw[Ov,c8.o];rintro e w7 ⟨rfl,Y⟩;have b2:=Hd (Y.after (q.o.trans (O.o.mono q.o.size)));obtain⟨n7,g7,-,-,R⟩:=Y;have g4:=e2.o w7 ((Bar.of O.o).trans R);clear R;have a7:=fun W=>(FY X W).2.1;have a8:=fun W=>(FY X W).2.2;unfold Gu at a7 a8 ⊢))
   all_goals (go_wp2;go_ret;exact⟨Oz G.o.symm,b2.o⟩)
 have K:Hid (V9 (Ou (Oh (Og S))) F (Ox F) T t r i=Ot (r:Nat) (Ou (Oh (Og S)) u.sort).kind):=by
  unfold Hid V9;simp only;rw[HU.o.1,if_neg e3,if_neg e4,if_neg e5,if_neg e6,if_neg e7,if_neg e8,if_neg e9,if_neg f0]
 have n2:((r:Int)==12)=false:=by rw[Jc];omega
 have n4:((r:Int)==13)=false:=by rw[Jc];omega
 have n5:((r:Int)==14)=false:=by rw[Jc];omega
 have n6:((r:Int)==15)=false:=by rw[Jc];omega
 have n8:((r:Int)==16)=false:=by rw[Jc];omega
 have n9:((r:Int)==17)=false:=by rw[Jc];omega
 have o0:((r:Int)==18)=false:=by rw[Jc];omega
 have o1:((r:Int)==19)=false:=by rw[Jc];omega
 obtain⟨B,hB⟩:=O2 (Ot (r:Nat) (Ou (Oh (Og S)) u.sort).kind);rw[hB]at K;have h7:=Hd hB;clear hB e3 e4 e5 e6 e7 e8 e9 f0
 go_wp2_with fail
 refine(A5 (HH.o.next q.o) (r:Nat) ⟨by omega,by omega⟩ (Oo u.sort) g9 hn).mono ?_;rw[Ov,h7.o];rintro e w7 ⟨rfl,Y⟩;have b2:=Hd (Y.after q.o);clear Y
 go_wp2
 go_ret
 exact⟨Oz K.o.symm,b2.o⟩
def G0(L:List (List UInt8)):Bool:=(List.range L.length).all (fun i=>match L[i]? with|none=>true|some s=>K1 s&&!On (L.take i) s)
def E8(S:List (List UInt8))(F:List Fn):Bool:=decide (S.length+F.length<=300)&&G0 (S++F.map (·.name))&&F.all (Ub (On S))
theorem freshL_no{i:Nat}(h:i<L.length)(hb:(K1 L[i]&&!On (L.take i) L[i])=false):G0 L=false:=by
 unfold G0;rw[Yb];intro hh;have:=Jx.1 hh i (Yg.2 h);rw[Jg h]at this;simp only at this;rw[hb]at this
 cases this
theorem OD(h:∀i (h:i<L.length),(K1 L[i]&&!On (L.take i) L[i])=true):G0 L=true:=by
 unfold G0;rw[Jx];intro i j;have j:=Yg.1 j;rw[Jg j];exact h i j
theorem GT{p:Option Addr}{c:Nat}(h:O4 w (.slice p n c) L){k:Nat}(hk:k<=L.length):O4 w (.slice p k c) (L.take k):=by
 obtain⟨K,G,e,J,q,j⟩:=h;simp only[Value.slice.injEq]at e;obtain⟨rfl,rfl,rfl⟩:=e;refine⟨p,c,by rw[J7,Yw hk],by rw[J7,Yw hk];omega,q,?_⟩
 rcases j with j|⟨b,e,hl,E⟩
 ·exact .inl (by rw[j,List.take_nil])
 exact .inr ⟨b,e,hl,fun i hi=>by
  rw[J7]at hi;rw[E i (by omega),Z9]⟩
theorem Lb{ops:Array Oper}{rest:List Oper}{o:Oper}{a:Act}{Q:Exit->Act->World->Prop}{W:World}{base n c:Nat}{v:Value}{xs:List Value}{ad:Addr}{L:List (List UInt8)}(hgd:o.guard=none)(s y:Operand)
 (ho:o.op=.call { callee:=.builtin .append,args:=#[s,y],argTypes:=#[23,23] }) (hs:a.eval s=v) (hown:W.ownsRow base 9 1 v n xs)
 (hx:a.eval y=.slice (some ad) L.length c) (hc:∀i (h:i<L.length),W.cell? (ad.add i)=some (.string (Oo L[i]))) (hn:n+L.length<=1000000000) (hbase:base<=W.heap.size)
 (h:∀v' W',W'.ownsRow base 9 1 v' (n+L.length) (xs++strsC L)->W.grownBy W' v.ownBlock->wpList prog ops Q rest (a.put o.dst v') W') :
 wpList prog ops Q (o::rest) a W:=by
 obtain⟨i0,q,E,G,J⟩:=Xr;obtain⟨v',w',Y,R,V,_,_⟩:=run_append_own_at (P:=prog) W base 23 o.type 9 i0 _ 1 16 underlying23 q E G J rfl (by decide) v n xs hown ad L.length c (strsC L) (by simp[strsC]) (fun j u hu=>by
  have O:j<L.length:=by have:=(Zm.1 hu).1;simpa[strsC]using this
  rw[hc j O,<-hu];simp[strsC,List.getElem?_eq_getElem O]) (fun u hu=>by
  simp only[strsC,Yu]at hu;obtain⟨x,_,rfl⟩:=hu;rfl) (by unfold maxLen;omega) (by omega) hbase
 refine wpList_plain hgd fun K hK=>?_;unfold Oper.wp;simp[execOp,ho,resolve,invoke,builtin,hs,hx,Y,Result.andThen];exact hK _ _ (h v' w' R V)
end Go.Proofs.YtfkagjelljnpdaaGreatDoor
namespace Go.Proofs.YtfkagjelljnpdaaGreatDoor
open ChangeShapes WideShapes ChangeAt RowKit
variable {L:List (List UInt8)}{n:Nat}{v:Value}{w:World}
theorem Oe{base:Nat}{e:TypeId}{size:Nat}{xs:List Value}(h:w.ownsRow base e size v n xs):∀g,v.ownBlock=some g->base<=g:=by
 intro g j
 rcases h.2 with⟨rfl,_⟩|⟨E,q,cur,rfl,hb,_⟩
 ·cases j
 cases j;exact hb
theorem Ta{base:Nat}(h:w.ownsRow base 9 1 v n (strsC L))(hn:n=L.length):O4 w v L:=by
 subst hn
 rcases h.2 with⟨rfl,q⟩|⟨g,j,cur,rfl,_,J,E,G,_,_⟩
 ·refine⟨none,0,?_,by omega,Jp _,.inl (List.length_eq_zero_iff.1 q)⟩;rw[q]
 refine⟨some ⟨g,0,none⟩,j,rfl,E,G,.inr ⟨g,rfl,(Jo.1 J).1,fun i hi=>?_⟩⟩;rw[h.cellAt i (by omega)];simp[strsC,List.getElem?_eq_getElem hi]
theorem Xg{W W':World}{base:Nat}{e:TypeId}{size:Nat}{xs:List Value}{o:Obj}(hb:Below base w W)(hown:W.ownsRow base e size v n xs)(hg:(W.alloc o).grownBy W' v.ownBlock)(hl:base<=W.heap.size):Below base w W':=by
 refine⟨hg.os.trans hb.os,hg.tape.trans hb.tape,hg.output.trans hb.output,?_,fun k hk=>?_⟩
 ·have h:=hg.size;have j:=hb.size;rw[Ju]at h;omega
 rw[hg.block k (by rw[Ju];omega) (fun e=>by have:=Oe hown k e.symm;omega),(Oy W o).block k (by omega),hb.block k hk]
theorem M0{k:Nat}(h:k<L.length):strsC (L.take (k+1))=strsC (L.take k)++[.string (Oo L[k])]:=by
 unfold strsC;rw[Yl h,Yk];rfl
theorem Uh{t:Tm}(h:Ul t=true):Uk t.op<=t.kids.length/\1<=t.op/\t.op<=47:=by
 unfold Ul at h;simp only[Jw,J1]at h;exact⟨h.1.1.1.2.1,h.1.1.1.1⟩
theorem El{p:Option Addr}{c:Nat}(h:O4 w (.slice p n c) L)(h0:0<L.length):∃b,p=some ⟨b,0,none⟩/\∀i (h:i<L.length),w.cell? ⟨b,i,none⟩=some (.string (Oo L[i])):=by
 obtain⟨G,E,e,_,_,j⟩:=h;simp only[Value.slice.injEq]at e;obtain⟨rfl,_,_⟩:=e
 rcases j with rfl|⟨b,e,_,q⟩
 ·cases h0
 exact⟨b,e,q⟩
theorem Hf{i:Nat}(h:i<L.length):kS L i=L[i]:=by unfold kS;rw[Jg h];rfl
theorem PO{T:List Tm}{y:Nat}(h:y<T.length):tmAt T (y:Int)=T[y]:=by unfold tmAt;simp[List.getElem?_eq_getElem h]
def Us(S:List (List UInt8))(num:Tm->Bool)(F:List Fn)(T:List Tm)(n:Nat)(t:Tm):Bool:=Ul t&&Di n t&&E4 (Ou (On S)) num F T t (Nr T t)
end Go.Proofs.YtfkagjelljnpdaaGreatDoor
