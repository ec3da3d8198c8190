import Derived.Test.YtfkagjelljnpdaaGreatDoorP28
import Derived.Test.YtfkagjelljnpdaaGreatDoorP29
import Derived.LaidEqlPtr
set_option linter.all false
set_option maxRecDepth 100000
set_option maxHeartbeats 8000000
namespace Go.Proofs.YtfkagjelljnpdaaGreatDoor
open ChangeShapes WideShapes ChangeAt RowKit Proofs.Tryz
variable {B mb n:Nat}{R:List Nat}{T:List Tm}{v:Value}{w w':World}
def Gm(w:World)(B:Nat)(v:Value)(T:List Tm):Prop:=∃w0,w0.heap.size<=B/\TermsAt w0 v T/\Up w0 w
theorem Gm.at(h:Gm w B v T):TermsAt w v T:=by obtain⟨w0,_,j,q⟩:=h;exact j.bl q
theorem Gm.bl(h:Gm w B v T)(hb:Below B w w'):Gm w' B v T:=by obtain⟨w0,j,q,E⟩:=h;exact⟨w0,j,q,E.trans (hb.mono j)⟩
structure Sta(w:World)(B mb hb:Nat)(s:St)(T:List Tm)(H:List Nat)(ms:List Me):Prop where
 trm:Gm w B s.vt T
 vH:s.vH=.slice (some ⟨hb,0,none⟩) T.length T.length
 hd:Tb w hb 3 (labV H)
 hl:H.length=T.length
 h6:∀i,i<T.length->labA H i<65536
 vM:s.vM=.slice (some ⟨mb,0,none⟩) T.length T.length
 mem:MemsAt w mb ms
 ml:ms.length=T.length
 bs:B<=w.heap.size
 n3:T.length<=3000
 tk:TmK T
def UM:List (Option TypeId):=[some 59,some 84,some 5,some 9,none]
theorem Sta.ch{hb:Nat}{s:St}{H:List Nat}{ms:List Me}{ts:List (Option TypeId)}(h:Sta w B mb hb s T H ms)(hc:Ch B NoX ts w w')(h1:some 3∉ts)(h2:some 49∉ts):Sta w' B mb hb s T H ms:=
 ⟨h.trm.bl (hc.bl h.bs),h.vH,h.hd.ch hc (.inr (.inr h1)),h.hl,h.h6,h.vM,h.mem.ch hc h2,h.ml,Jm h.bs hc.size,h.n3,h.tk⟩
def sigL(T:List Tm)(H R:List Nat)(t k:Nat):List Nat:=labA H t::(List.range k).map (fun i=>labA R (O9 (tmAt T (t:Nat)) i))
def Gx(T:List Tm)(H R:List Nat)(t:Nat):List UInt8:=Xh (sigL T H R t (tmAt T (t:Nat)).kids.length)
theorem GM(T:List Tm)(H R:List Nat)(t k:Nat):sigL T H R t (k+1)=sigL T H R t k++[labA R (O9 (tmAt T (t:Nat)) k)]:=by unfold sigL;rw[Yv];simp
def St.sig(s:St)(v:Value)(A:List UInt8):St:={ s with vS:=v,aS:=A }
theorem Dyn.sign{eb:Nat}{s:St}{A:List UInt8}(h:Dyn w B eb s)(hc:Ch B NoX [some 5] w w')(ho:w'.ownsRow B 5 1 v A.length (Qr A)):Dyn (w'.setCell ⟨eb,9,none⟩ v) B eb (s.sig v A)/\Ch B NoX [some 59,some 5] w (w'.setCell ⟨eb,9,none⟩ v):=by
 have hb:=h.box.ch hc (.inr (.inr (by decide)));have j:Ch B NoX [some 59,some 5] w (w'.setCell ⟨eb,9,none⟩ v):=(hc.wide (by decide)).trans (Ch.set h.low (fun h=>h) (by rw[hb.ty];decide));exact⟨⟨hb.set 9 v,h.low,own_ch h.itm j (by decide),h.map.ch j (by decide),h.mlo,Uf ho (by rw[hb.ty];decide),own_ch h.chg j (by decide),own_ch h.ent j (by decide)⟩,j⟩
theorem Kx{base size:Nat}{e:TypeId}{xs:List Value}(h:w.ownsRow base e size v n xs):(v=.slice none n 0/\n=0)∨∃g c,v=.slice (some ⟨g,0,none⟩) n c:=by
 rcases h.2 with⟨G,q⟩|⟨E,j,cur,J,_⟩
 ·subst q;exact .inl ⟨G,rfl⟩
 exact .inr ⟨E,_,J⟩
def St.putI(s:St)(v:Value)(mb i j:Nat):St:={ s with vI:=v,nI:=s.nI+1,xI:=s.xI++[mp mb i,mp mb j] }
def St.entK(s:St)(vN:Value)(xN:List Value)(key:List UInt8)(t:Nat):St:={ s with vN:=vN,nN:=s.nN+1,xN:=xN,nS:=s.nS+1,sg:=fun k=>if k=key then some t else s.sg k }
def LQ(B eb mb:Nat)(s:St)(t:Nat)(key:List UInt8)(w w':World):Prop:=Ch B NoX UM w w'/\∃v2,(∃u v',s.sg key=some u/\Dyn w' B eb ((s.sig v2 key).putI v' mb t u)/\Pk w s.vI w' v')∨(s.sg key=none/\∃vN xN,Dyn w' B eb ((s.sig v2 key).entK vN xN key t)/\Pk w s.vI w' s.vI)
theorem VV{b:Nat}{f:List UInt8->Option Nat}(h:Ue w b n f)(s:ByteArray)(hs:s.size<=1048576):∃c:Int,(∀i,f s.data.toList=some i->c=(i:Nat))/\(Instr.lookup 56 (.map (some b)) (.string s) true).run prog w=.ok (.tuple #[.int .i64 c,.bool (f s.data.toList).isSome]) w:=by
 obtain⟨D,j,G⟩:=h;have V:(zeroValue 3).run prog w=.ok (.int .i64 0) w:=rfl;obtain⟨v,Y,q,O⟩:=j.look_ok G2 underlying56 V (plainElem_int underlying3 (by decide)) (Eo s (by unfold maxLen;omega));obtain⟨c,rfl,K,R⟩:=plainElem_int_inv underlying3 O;refine⟨c,fun i hi=>?_,?_⟩
 ·have J:=(G s.data.toList).2 i hi;have E:=congrArg Prod.fst K;rw[J]at E;simp at E;exact E.symm
 rw[q,(G s.data.toList).1]
theorem Ue.upd{b t:Nat}{f:List UInt8->Option Nat}{D:DataW Unit}(hD:∀s,Maps.has D (.string s)=(f s).isSome/\∀i,f s=some i->D.atKey (.string s) (.lit (.int .i64 0))=.lit (.int .i64 (i:Nat)))(hm:Maps.IsMap D){s:List UInt8}(hown:w.ownsMap prog 9 (plainElem prog 3) b n (D.put (.string s) (.lit (.int .i64 (t:Nat))))):Ue w b n (fun k=>if k=s then some t else f k):=by
 refine⟨_,hown,fun k=>?_⟩
 show Maps.has _ _=(if k=s then some t else f k).isSome/\∀i,(if k=s then some t else f k)=some i->_
 by_cases h:k=s
 ·subst h;rw[if_pos rfl];refine⟨Maps.has_put_same hm Gg _,fun i hi=>?_⟩;cases hi;exact Maps.atKey_put_same hm Gg _ _
 rw[if_neg h];have j:(Lit.string k)≠Lit.string s:=fun e=>h (by cases e;rfl);rw[Maps.has_put_other j,Maps.atKey_put_other j];exact hD k
theorem Fo.lt{ms:List Me}{D:Nat->Nat}(h:Fo ms R D)(i:Nat)(hi:i<ms.length):labA R i<ms.length:=by
 have q:∀d i,D i<=d->i<ms.length->labA R i<ms.length:=by
  intro d
  induction d with
  | zero=>
    intro i hd hi
    rcases h.step i hi with⟨_,e⟩|⟨j,_,_,_,J⟩
    ·rw[e];exact hi
    omega
  | succ d ih=>
    intro i hd hi
    rcases h.step i hi with⟨_,e⟩|⟨j,E,_,G,J⟩
    ·rw[e];exact hi
    rw[<-G];exact ih j (by omega) E
 exact q _ i leR hi
theorem RE{eb hb:Nat}{s:St}{H:List Nat}{ms:List Me}{D:Nat->Nat}(t:Nat)(hd:Dyn w B eb s)(hs:Sta w B mb hb s T H ms)(hF:Fo ms R D)(ht:t<T.length)(hu:∀k u,s.sg k=some u->u<T.length)(hnI:s.nI<=5000000000000)(hnS:s.nS<=5000000000000)(hnN:s.nN<=5000000000000) :
 Calls prog 30 #[.pointer (some ⟨eb,0,none⟩),.int .i64 (t:Nat)] w fun e w'=>e=.returned (.tuple #[])/\LQ B eb mb s t (Gx T H R t) w w':=by
 obtain⟨y,hy⟩:=O2 (labA H t);have c9:=hd.box.bx.cell 9;have c3:=hd.box.bx.cell 3;have l1:s.bx[3]? = some (.slice (some ⟨hb,0,none⟩) T.length T.length):=by show some s.vH=_;rw[hs.vH]
 have g8:s.bx[9]? = some s.vS:=rfl;rw[l1]at c3;rw[g8]at c9;have q0:=hs.hd.bx.cell t;rw[Ks (by have:=hs.hl;omega),hy]at q0;have i1:(t:Int)<(T.length:Int):=by omega
 have i2:decide (t<T.length)=true:=Jb ht;have HY:=Hd hy;have HD:=Hd hd;have HS:=Hd hs;have HF:=Hd hF;have HU:=Hd hu;have h0:∃p c,s.vS=.slice p s.aS.length c/\(p=none/\c=0/\s.aS.length=0∨∃g,p=some ⟨g,0,none⟩)/\s.aS.length<=c:=by
  rcases hd.sig.2 with⟨e,e0⟩|⟨g',q1,cur,hv,_,_,hr,_⟩
  ·exact⟨none,0,by rw[e,e0],.inl ⟨rfl,rfl,e0⟩,by omega⟩
  exact⟨_,_,hv,.inr ⟨g',rfl⟩,hr⟩
 obtain⟨pS,cS,eS,o9,u9⟩:=h0;have b9:w.ownsRow B 5 1 (.slice pS 0 cS) 0 (Qr []):=own_none (by have:=hd.sig;rw[eS]at this;exact this);have b4:=Hd (Rs (A:=[]) y w.drew b9.drew hs.bs (by simp));rw[eS]at c9;have j1:=Hd g8;clear hd hs hF hu hy l1 g8 b9
 go_in
 go_upto_region 0 with fail
 go_cut [] (fun wx=>∃v1,Dyn wx B eb (s.sig v1 (Xh [y]))/\Ch B NoX [some 59,some 5] w wx)
 case first=>
  rcases o9 with⟨rfl,rfl,e0⟩|⟨gS,rfl⟩
  all_goals (
   go_region_law
    ((go_simp;refine b4.o.mono ?_;rintro e w2 ⟨g1,n1,c1,rfl,-,b6,E⟩;have b0:Hid (Ch B NoX [some 5] w w2):=⟨E.os,E.tape,E.output,E.size,E.block⟩;have HN:=Hd (HD.o.sign b0.o b6);have d9:=(HD.o.box.ch b0.o (.inr (.inr (by decide)))).bx.cell 9;have f9:=(HD.o.box.ch b0.o (.inr (.inr (by decide)))).bx.fz 9;rw[j1.o]at d9;clear b6 E;go_wp2_with fail))
   all_goals (go_wp2;go_meet;exact⟨_,HN.o.1,HN.o.2⟩))
 rename World=>wx
 obtain⟨v1,g3,E⟩:=hcut;have m8:=Hd g3;have b0:=Hd (E.wide (ts':=UM) (by decide));have h7:=Hd E;have b2:=Hd (HS.o.ch E (by decide) (by decide));have e0:wx.cell? ⟨eb,0,none⟩=some s.vt:=g3.box.bx.cell 0;obtain⟨bt,ct,pk,ck,et,u5,k0,k1,k2,k3,k4,k5,k6⟩:=Uo b2.o.trm.at ht;rw[et]at e0;have r4:=Hd k6;have n9:Hid (Xh [y]=Xh (sigL T H R t 0)):=by unfold Hid sigL;rw[HY.o];rfl
 have q7:=HS.o.tk.few t ht;have n5:=Hd (HS.o.tk.kids t ht);have o1:Hid (∀wy,Ch B NoX [some 59,some 5] wx wy->IntsAt wy (.slice pk (tmAt T (t:Nat)).kids.length ck) (tmAt T (t:Nat)).kids):=fun wy hc=>by
  obtain⟨r7,s5,x6,s3,e9,_,_,_,_,_,_,p5,p6⟩:=Uo (b2.o.ch hc (by decide) (by decide)).trm.at ht;rw[et]at e9;simp only[Value.slice.injEq,true_and,Option.some.injEq,Addr.mk.injEq,and_true]at e9;obtain⟨rfl,rfl⟩:=e9;obtain⟨w0,g0,g1,g2⟩:=b2.o.trm;obtain⟨r8,s6,x7,s4,f0,hb2,_,_,_,_,_,m5,_⟩:=Uo g1 ht;rw[et]at f0;simp only[Value.slice.injEq,true_and,Option.some.injEq,Addr.mk.injEq,and_true]at f0;obtain⟨rfl,rfl⟩:=f0;have e1:=(g2.cell (p:=⟨bt,t*6+5,none⟩) hb2).trans m5;have e2:=((g2.trans ((hc.bl b2.o.bs).mono g0)).cell (p:=⟨bt,t*6+5,none⟩) hb2).trans m5;rw[k5]at e1;rw[p5]at e2;have e3:=e1.trans e2.symm;simp only[Option.some.injEq,Value.slice.injEq,true_and]at e3;obtain⟨rfl,rfl⟩:=e3;exact p6
 generalize j5:(tmAt T (t:Nat)).kids.length=nk at *;clear g3 E k6 c3 c9 q0 b4 j1
 go_wp2
 go_loopw [5,34] (fun _ iv wy=>∃(k:Nat) (v2:Value),k<=nk/\iv=.int .i64 (k:Nat)/\Dyn wy B eb (s.sig v2 (Xh (sigL T H R t k)))/\Ch B NoX [some 59,some 5] wx wy) (fun _ iv _=>nk - (intOf iv).toNat)
 case atStart=>exact⟨0,v1,Jp _,rfl,by rw[<-n9.o];exact m8.o,Ch.refl _ _ _ _⟩
 rename World=>wy
 obtain⟨k,v2,hk,rfl,a8,b5⟩:=hrel;have HD2:=Hd a8;have d6:=Hd b5;have d0:=Hd (b2.o.ch b5 (by decide) (by decide));clear e0 k0 k1 k2 k3 k4 k5
 by_cases g5:k<nk
 ·have z1:decide ((k:Int)<(nk:Int))=true:=Jb (by omega);have z2:decide (k<nk)=true:=Jb g5;have i3:(k:Int)<(nk:Int):=by omega
  have f5:=o1.o wy b5;rw[<-j5]at f5;obtain⟨bk,rfl,o5,kc,kl⟩:=Hl f5 n5.o (i:=k) (by omega);have e6:=Hd (GM T H R t k);obtain⟨x,hx⟩:=O2 (O9 (tmAt T (t:Nat)) k);rw[hx]at kc kl e6;have h3:x<ms.length:=by rw[HS.o.ml];exact kl
  have e8:=Hd (Hj wy.drew (d0.o.mem.ch (Ch.refl B NoX [] _).drew (by decide)) HF.o x h3);have l0:=HF.o.lt x h3;obtain⟨r,hr⟩:=O2 (labA R x);rw[hr]at e8 l0 e6;have m0:=(d0.o.mem.cells l0).1;have d9:wy.cell? ⟨eb,9,none⟩=some v2:=a8.box.bx.cell 9;have d5:wy.cell? ⟨eb,5,none⟩=some (.slice (some ⟨mb,0,none⟩) T.length T.length):=by have:wy.cell? ⟨eb,5,none⟩=some s.vM:=a8.box.bx.cell 5;rw[this,HS.o.vM]
  have i4:(x:Int)<(T.length:Int):=by omega
  have i5:decide (x<T.length)=true:=Jb kl;have b4:=Hd (Rs (v:=v2) (A:=Xh (sigL T H R t k)) r wy.drew a8.sig.drew d0.o.bs (by rw[He];simp[sigL];omega));rw[<-KR,<-e6.o]at b4;unfold mp at e8;clear a8 b5 f5 hx hr o5 kl h3
  go_wp2
  go_region_law (first
   | (go_simp;refine e8.o.mono ?_;rintro e w3 ⟨rfl,rfl⟩;go_wp2_with fail)
   | (go_simp;refine b4.o.mono ?_;rintro e w3 ⟨g1,n1,c1,rfl,-,b6,E⟩;have d7:Hid (Ch B NoX [some 5] wy w3):=⟨E.os,E.tape,E.output,E.size,E.block⟩;have HN:=Hd (HD2.o.sign d7.o b6);have f9:=(HD2.o.box.ch d7.o (.inr (.inr (by decide)))).bx.fz 9;have g9:w3.cell? ⟨eb,9,none⟩=some v2:=(HD2.o.box.ch d7.o (.inr (.inr (by decide)))).bx.cell 9;clear b6 E;go_wp2_with fail))
  all_goals (
   go_wp2
   go_roundw
   case rel=>exact⟨k+1,_,by omega,by go_num,HN.o.1,d6.o.trans HN.o.2⟩
   simp[intOf];omega)
 have z1:decide ((k:Int)<(nk:Int))=false:=Jd (by omega);have z2:decide (k<nk)=false:=Jd g5;have j9:k=nk:=by omega
 have d3:Hid (Xh (sigL T H R t k)=Gx T H R t):=by unfold Hid Gx;rw[j9,j5]
 rw[d3.o]at HD2;obtain⟨q,K⟩:=O2 (Gx T H R t);have u6:q.length<=200:=by rw[<-K];unfold Gx;rw[He];simp[sigL];omega
 rw[K]at HD2;have i6:=Hd K;have h8:=Hd (b0.o.trans (d6.o.wide (ts':=UM) (by decide)));have d2:=Hd (h7.o.trans d6.o);obtain⟨g2,c2,j2⟩:∃g c,v2=.slice (some ⟨g,0,none⟩) q.length c:=by
  rcases Kx HD2.o.sig with⟨_,e⟩|⟨g,c,e⟩
  ·exfalso
   have e':q.length=0:=e;rw[<-K]at e';unfold Gx at e';rw[He]at e';simp[sigL]at e'
  exact⟨g,c,e⟩
 have f8:∀W,Ch B NoX [] wy W->(convert 22 9 (.slice (some ⟨g2,0,none⟩) q.length c2)).run prog W=.ok (.string (Oo q)) W:=fun W hc=>by
  have h:W.ownsRow B 5 1 v2 q.length (Qr q):=own_ch HD2.o.sig hc (by decide);rw[j2]at h;exact run_convert_bytes_back (P:=prog) W 22 9 5 ⟨g2,0,none⟩ c2 q underlying22 underlying5 underlying9 (fun j hj=>h.cells (g:=g2) rfl j (.int .u8 (q[j].toNat:Nat)) (by simp[Qr,List.getElem?_eq_getElem hj]))
 have k7:(Oo q).size<=1048576:=by show q.toArray.size<=_;rw[List.size_toArray];omega
 have o6:=f8 wy.drew (Ch.refl _ _ _ _).drew;have m6:=Hd f8;obtain⟨c,hc,g4⟩:=VV (w:=wy.drew) (HD2.o.map.ch (Ch.refl B NoX [] _).drew (by decide)) (Oo q) k7;rw[Ov]at hc g4;have J:(Instr.lookup 56 (.map (some s.sb)) (.string (Oo q)) true).run prog wy.drew=.ok (.tuple #[.int .i64 c,.bool (s.sg q).isSome]) wy.drew:=g4;have d9:wy.cell? ⟨eb,9,none⟩=some (.slice (some ⟨g2,0,none⟩) q.length c2):=by have:wy.cell? ⟨eb,9,none⟩=some v2:=HD2.o.box.bx.cell 9;rw[this,j2]
 have d8:wy.cell? ⟨eb,8,none⟩=some (.map (some s.sb)):=HD2.o.box.bx.cell 8;have l9:=Hd hc;clear a8 b5 g4 j9 g5 hk f8 hc K d3
 cases O:s.sg q with
 | some u=>
   have p0:=HU.o q u O;have o7:=l9.o u O;subst o7;rw[O]at J;have o8:(Instr.lookup 56 (.map (some s.sb)) (.string (Oo q)) true).run prog wy.drew=.ok (.tuple #[.int .i64 (u:Nat),.bool true]) wy.drew:=J;have b3:=Hd O;have n2:Hid (∀W,Ch B NoX [] wy W->_):=fun W hc=>Dw (B:=B) (mb:=mb) (m:=T.length) (cM:=T.length) t u W (HD2.o.box.ch hc (.inr (.inr (by decide)))) (by show some s.vM=_;rw[HS.o.vM]) (rfl:(s.sig v2 q).bx[6]? = some s.vI) (own_ch HD2.o.itm hc (by decide)) HD2.o.low hnI ht p0;clear J O
   go_wp2
   go_region
   all_goals (
    go_wp2_with fail
    refine(n2.o _ (by first|exact(Ch.refl _ _ _ _).drew|exact Ch.refl _ _ _ _)).mono ?_;rintro e w5 ⟨rfl,v',k8,j6,a7,j8⟩;have n4:Hid (Pk wy s.vI w5 v'):=fun pb h1 h2=>j8 pb h1 h2;have V:Hid (Ch B NoX [some 59,some 84] wy w5):=⟨a7.os,a7.tape,a7.output,a7.size,a7.block⟩;have m9:Hid (Dyn w5 B eb ((s.sig v2 q).putI v' mb t u)):=⟨j6,HD2.o.low,k8,HD2.o.map.ch V.o (by decide),HD2.o.mlo,own_ch HD2.o.sig V.o (by decide),own_ch HD2.o.chg V.o (by decide),own_ch HD2.o.ent V.o (by decide)⟩;clear k8 j6 a7 j8
    go_wp2
    go_returns
    exact⟨rfl,by rw[i6.o];exact⟨h8.o.trans (V.o.wide (by decide)),v2,.inl ⟨u,v',b3.o,m9.o,(Pk.ch s.vI d2.o (by decide)).trans n4.o⟩⟩⟩)
 | none=>
   rw[O]at J;have o8:(Instr.lookup 56 (.map (some s.sb)) (.string (Oo q)) true).run prog wy.drew=.ok (.tuple #[.int .i64 c,.bool false]) wy.drew:=J;have b3:=Hd O;clear J O;have l5:=m6.o wy.drew.drew (Ch.refl _ _ _ _).drew.drew;obtain⟨DM,k9,j4⟩:=HD2.o.map;have j0:=Hd k9;have n0:=Hd j4;have e5:Hid (Ix wy s.sb=none):=HD2.o.map.none.1;have v8:=HS.o.n3;obtain⟨i0,j7,p2,p3,p4⟩:=Xr;clear k9 j4
   go_wp2
   go_region
   all_goals (
    go_wp2_with (at_mapUpdate;refine wpList_mapUpdate_own _ rfl _ _ _ 56 rfl 9 3 G2 underlying56 (plainElem prog 3) s.sb s.nS DM rfl (j0.o:wy.drew.ownsMap _ _ _ _ _ _) (by unfold maxLen;omega) _ _ _ rfl rfl (Eo (Oo q) (by unfold maxLen;omega)) (.lit (.int .i64 (t:Nat))) [] (plainElem_int underlying3 ?wf) ?_)
    case wf=>exact F6 (by omega)
    intro w4 b7 G;have c8:Hid (Ch B NoX [none] wy w4):=Ch.bar (g:=s.sb) ⟨G.os,G.tape,G.output,G.size,fun k hk hne=>G.block k hk (fun e=>hne (Option.some.inj e))⟩ HD2.o.mlo (fun h=>h) (by rw[e5.o];simp);have n6:=Hd (Ue.upd n0.o j0.o.isMap b7);have e4:=Hd (HD2.o.box.ch c8.o (.inr (.inr (by decide))));have i8:=Hd (own_ch HD2.o.ent c8.o (by decide));have u2:B<=w4.heap.size:=Jm d0.o.bs c8.o.size;obtain⟨pN,cN,j3⟩:∃p c,s.vN=.slice p s.nN c:=by
     rcases Kx i8.o with⟨e,_⟩|⟨g,c,e⟩
     ·exact⟨_,_,e⟩
     exact⟨_,_,e⟩
    have o2:w4.cell? ⟨eb,12,none⟩=some (.slice pN s.nN cN):=by rw[<-j3];exact e4.o.bx.cell 12
    have q6:eb<w4.heap.size:=e4.o.bx.lt;obtain⟨W5,a1⟩:=O2 (w4.alloc (.cells #[.string (Oo q)] 9));have o0:=Hd a1;have h5:Hid (W5.ownsRow B 9 1 (.slice pN s.nN cN) s.nN s.xN):=by unfold Hid;rw[<-a1,<-j3];exact(show w4.ownsRow B 9 1 s.vN s.nN s.xN from i8.o).alloc _
    have V:Hid (Ch B NoX [] w4 W5):=by unfold Hid;rw[<-a1];exact Ch.up _ _ _ (Oy _ _)
    have n7:Hid (∀j u,([.string (Oo q)]:List Value)[j]? = some u->W5.cell? ((⟨w4.heap.size,0,none⟩:Addr).add j)=some u):=by
     unfold Hid;rw[<-a1];exact World.news_of_block (cs:=#[.string (Oo q)]) (t:=9) (fr:=(0,0)) (heap_alloc_new w4 _)
    have n8:Hid (W5.heap.size=w4.heap.size+1):=by unfold Hid;rw[<-a1];simp
    clear b7 G a1 d8 d9
    go_wp2_with (at_builtin;rw[o0.o];refine wpList_append_lies _ rfl _ _ 23 rfl B 9 i0 (.string ⟨#[]⟩) 1 16 underlying23 j7 p2 p3 p4 rfl (by omega) (.slice pN s.nN cN) s.nN s.xN rfl h5.o ⟨w4.heap.size,0,none⟩ 1 1 [.string (Oo q)] rfl rfl n7.o (by simp[Value.oneCell']) (by omega) (by unfold maxLen;omega) (by omega) (by rw[n8.o];omega) _ rfl ?_)
    intro g6 c6 w6 b8 d4 _ _;have l8:=Hd (Ch.grown (B:=B) (X:=NoX) (ts:=[some 9]) d4 h5.o leR (fun _ _ h=>h) (by simp));have b1:Hid (Ch B NoX [some 9] w4 w6):=(V.o.wide (by decide)).trans l8.o;have Z:=Hd (e4.o.ch b1.o (.inr (.inr (by decide))));have s7:w6.cell? ⟨eb,12,none⟩=some s.vN:=Z.o.bx.cell 12;have s9:=Z.o.bx.fz 12;obtain⟨vN,g7⟩:∃v,Value.slice (some ⟨g6,0,none⟩) (s.nN+1) c6=v:=⟨_,rfl⟩;have Y:Hid (Ch B NoX [some 59,some 9,none] wy (w6.setCell ⟨eb,12,none⟩ vN)):=((c8.o.wide (by decide)).trans (b1.o.wide (by decide))).trans (Ch.set HD2.o.low (fun h=>h) (by rw[Z.o.ty];decide));have d1:Hid (Ch B NoX [some 59,some 9] w4 (w6.setCell ⟨eb,12,none⟩ vN)):=(b1.o.wide (by decide)).trans (Ch.set HD2.o.low (fun h=>h) (by rw[Z.o.ty];decide));have h9:Hid (Dyn (w6.setCell ⟨eb,12,none⟩ vN) B eb ((s.sig v2 q).entK vN (s.xN++[.string (Oo q)]) q t)):=⟨Z.o.set 12 vN,HD2.o.low,own_ch HD2.o.itm Y.o (by decide),n6.o.ch d1.o (by decide),HD2.o.mlo,own_ch HD2.o.sig Y.o (by decide),own_ch HD2.o.chg Y.o (by decide),by rw[<-g7];exact Uf b8 (by rw[Z.o.ty];decide)⟩;rw[<-g7]at Y h9;clear b8 d4 o2 g7 d1
    go_wp2_with fail
    go_end0
    exact⟨rfl,by rw[i6.o];exact⟨h8.o.trans (Y.o.wide (by decide)),v2,.inr ⟨b3.o,_,_,h9.o,(Pk.ch s.vI d2.o (by decide)).trans (Pk.ch s.vI Y.o (by decide))⟩⟩⟩)
theorem EF:(prog.info? 49).map (fun i=>decide (i.size=8))=some true:=by kernel_rfl
theorem ZY{ms:List Me}(h:MemsAt w mb ms)(i j:Nat):(binOp .eql 45 (mp mb i) (mp mb j)).run prog w=.ok (.bool (decide (i=j))) w:=by
 have E:=EF
 cases e:prog.info? 49 with
 | none=>rw[e]at E;cases E
 | some f=>
   rw[e]at E;have G:f.size=8:=by simpa using E
   obtain⟨a,ha⟩:=h.blk
   by_cases q:i=j
   ·subst q;rw[Jb rfl];exact run_eql_ptr_same w _ underlying45 e
   rw[Jd q];exact run_eql_ptr_other w underlying45 e (by omega) (fun e=>by simp only[Addr.mk.injEq,true_and,and_true]at e;omega) ha ha
def PI(w:World)(mb n:Nat)(v:Value):Prop:=∃p l c,v=.slice p l c/\l<=1000000000/\(l=0∨∃g,p=some ⟨g,0,none⟩/\∀i,i<l->∃j,j<n/\w.cell? ⟨g,i,none⟩=some (mp mb j))
theorem OY{ms:List Me}{D:Nat->Nat}(w:World)(h:MemsAt w mb ms)(hF:Fo ms R D)(j k r:Nat)(hj:j<ms.length)(hk:w.cell? ⟨k,0,none⟩=some (mp mb r)) :
 Calls prog 84 #[mp mb j,.pointer (some ⟨k,0,none⟩)] w fun e w'=>∃b,e=.returned (.bool b)/\Up w w':=by
 have q:=Hd (Hj w.drew (h.ch (Ch.refl 0 NoX [] _).drew (by decide)) hF j hj);unfold mp at hk q ⊢;have E:(binOp .eql 45 (.pointer (some ⟨mb,labA R j*8,none⟩)) (.pointer (some ⟨mb,r*8,none⟩))).run prog w.drew=.ok (.bool (decide (labA R j=r))) w.drew:=ZY (h.ch (Ch.refl 0 NoX [] _).drew (by decide)) _ _;clear h hF
 go_in
 go_wp2
 go_region_with (go_at_call 14;refine q.o.mono ?_;rintro e G ⟨rfl,rfl⟩)
 all_goals (go_wp2;go_ret;exact⟨_,rfl,(Ji _ _).drew⟩)
theorem A4{ms:List Me}{D:Nat->Nat}(w:World)(h:MemsAt w mb ms)(hF:Fo ms R D)(hv:PI w mb ms.length v)(k r:Nat)(hk:w.cell? ⟨k,0,none⟩=some (mp mb r)) :
 Calls prog 106 #[v,.func (.func 84) #[] #[.pointer (some ⟨k,0,none⟩)]] w fun e w'=>∃r:Int,e=.returned (.int .i64 r)/\Up w w':=by
 obtain⟨p,l,c,rfl,hl,Y⟩:=hv;have HM:=Hd h;have HF:=Hd hF;have Z:=Hd Y;have V:=Hd hk;clear h hF Y hk
 go_in
 go_wp2
 go_loopw [5,8] (fun _ iv wr=>∃i:Nat,i<=l/\iv=.int .i64 (i:Nat)/\Up w wr) (fun _ iv _=>l - (intOf iv).toNat)
 case atStart=>exact⟨0,Jp _,rfl,Ji _ _⟩
 rename World=>wo
 obtain⟨i,hi,rfl,hb⟩:=hrel;have O:=Hd hb
 by_cases J:i<l
 ·obtain⟨g,rfl,q⟩:∃g,p=some ⟨g,0,none⟩/\∀i,i<l->∃j,j<ms.length/\w.cell? ⟨g,i,none⟩=some (mp mb j):=by
   rcases Z.o with e|h
   ·omega
   exact h
  obtain⟨j,hj,c0⟩:=q i J;have q0:=(hb.cell (p:=⟨g,i,none⟩) (J3 w _ c0)).trans c0;have K:=Hd (OY wo (HM.o.ch (Ch.up 0 NoX [] hb) (by decide)) HF.o j k r hj ((hb.cell (p:=⟨k,0,none⟩) (J3 w _ V.o)).trans V.o));have b0:(i:Int)<(l:Int):=by omega
  unfold mp at q0 K;clear hb q c0
  go_wp2_with fail
  refine K.o.mono ?_;rintro e w1 ⟨b,rfl,G⟩;have E:=O.up G;clear G
  cases b with
  | true=>
    go_wp2
    go_ret
    exact⟨_,rfl,E.o⟩
  | false=>
    go_wp2
    go_roundw
    case rel=>exact⟨i+1,J,by go_num,E.o⟩
    simp[intOf];omega
 have b1:¬ (i:Int)<(l:Int):=by omega
 clear hb
 go_wp2
 go_ret
 exact⟨⟨_,rfl⟩,O.o⟩
theorem Dd{ms:List Me}{D:Nat->Nat}(w:World)(h:MemsAt w mb ms)(hF:Fo ms R D)(hv:PI w mb ms.length v)(k r:Nat)(hk:w.cell? ⟨k,0,none⟩=some (mp mb r)) :
 Calls prog 83 #[v,.func (.func 84) #[] #[.pointer (some ⟨k,0,none⟩)]] w fun e w'=>∃b,e=.returned (.bool b)/\Up w w':=by
 have j:=Hd (A4 w h hF hv k r hk);obtain⟨p,l,c,rfl,-,-⟩:=hv;clear h hF hk
 go_in
 go_wp2_with fail
 refine j.o.mono ?_;rintro e w1 ⟨r,rfl,hb⟩;have q:=Hd hb;clear hb j
 go_wp2
 go_ret
 exact⟨_,rfl,q.o⟩
theorem Sw{ms:List Me}{D:Nat->Nat}(w:World)(h:MemsAt w mb ms)(hF:Fo ms R D)(i r:Nat)(hi:i<ms.length)(hv:PI w mb ms.length ms[i].ap) :
 Calls prog 61 #[mp mb i,mp mb r] w fun e w'=>∃b,e=.returned (.bool b)/\Up w w':=by
 obtain⟨Y,q⟩:=O2 (w.alloc (.cells #[mp mb r] 45));have E:Up w Y:=by rw[<-q];exact Oy _ _
 have O:Bx Y w.heap.size [mp mb r]:=by rw[<-q];exact Oq w _ _
 have J:=Hd E;have G:=h.ch (Ch.up 0 NoX [] E) (by decide);have HC:=Hd (Dd Y G hF (v:=ms[i].ap) (by
  obtain⟨p,l,c,e,h1,Z⟩:=hv;refine⟨p,l,c,e,h1,?_⟩
  rcases Z with Z|⟨g,e2,h3⟩
  ·exact .inl Z
  refine .inr ⟨g,e2,fun j hj=>?_⟩;obtain⟨x,hx,hc⟩:=h3 j hj;exact⟨x,hx,(E.cell (p:=⟨g,j,none⟩) (J3 w _ hc)).trans hc⟩) w.heap.size r (O.cell 0))
 have c7:=(G.cells hi).2.2.2.2.2.2.2;have b2:∀(fn:Go.Fn) (first cap:Array Value) (w:World),(Instr.makeFunc fn first cap).run prog w=.ok (.func fn first cap) w:=fun _ _ _ _=>rfl;have K:=Hd q;clear h hF hv q E O G;unfold mp at K ⊢;generalize ms[i].ap=va at *
 go_in
 go_upto_region 1 with fail
 rw[K.o]
 go_wp2_with fail
 refine HC.o.mono ?_;rintro e w2 ⟨b,rfl,hb2⟩;have V:=Hd (J.o.trans (hb2.mono J.o.size));clear hb2
 go_wp2
 go_ret
 exact⟨b,rfl,V.o⟩
end Go.Proofs.YtfkagjelljnpdaaGreatDoor
namespace Go.Proofs.YtfkagjelljnpdaaGreatDoor
open ChangeShapes WideShapes ChangeAt RowKit
variable {H M R:List Nat}{T:List Tm}{b i j n t y:Nat}{sg':List UInt8->Option Nat}
def Rj(n:Nat)(R:List Nat)(W:List (Nat×Nat))(i j:Nat):Prop:=∀Q:Nat->Nat->Prop,(∀x,Q x x)->(∀x y,Q x y->Q y x)->(∀x y z,Q x y->Q y z->Q x z)->(∀x y,x<n->y<n->labA R x=labA R y->Q x y)->(∀p∈W,Q p.1 p.2)->Q i j
theorem Rj.refl(n:Nat)(R:List Nat)(W:List (Nat×Nat))(i:Nat):Rj n R W i i:=fun _ h _ _ _ _=>h i
theorem Rj.base{W:List (Nat×Nat)}(hi:i<n)(hj:j<n)(h:labA R i=labA R j):Rj n R W i j:=fun _ _ _ _ h4 _=>h4 i j hi hj h
theorem Rj.wait{W:List (Nat×Nat)}(h:(i,j)∈W):Rj n R W i j:=fun _ _ _ _ _ h5=>h5 _ h
theorem Rj.mono{R':List Nat}{W W':List (Nat×Nat)}(h:Rj n R W i j)(hR:∀x y,x<n->y<n->labA R x=labA R y->Rj n R' W' x y)(hW:∀p∈W,Rj n R' W' p.1 p.2):Rj n R' W' i j:=
 fun Q h1 h2 h3 h4 h5=>h Q h1 h2 h3 (fun x y hx hy e=>hR x y hx hy e Q h1 h2 h3 h4 h5) (fun p hp=>hW p hp Q h1 h2 h3 h4 h5)
theorem Rj.more{W W':List (Nat×Nat)}(h:Rj n R W i j)(hW:∀p∈W,p∈W'):Rj n R W' i j:=h.mono (fun _ _ hx hy e=>.base hx hy e) (fun p hp=>.wait (hW p hp))
theorem Rj.done(h:Rj n R [] i j):i=j∨(i<n/\j<n/\labA R i=labA R j):=by
 refine h (fun i j=>i=j∨(i<n/\j<n/\labA R i=labA R j)) (fun _=>.inl rfl) ?_ ?_ (fun x y hx hy e=>.inr ⟨hx,hy,e⟩) (fun p hp=>absurd hp (Yi))
 ·rintro i j (rfl|⟨a,b,c⟩)
  ·exact .inl rfl
  exact .inr ⟨b,a,c.symm⟩
 rintro i j k (rfl|⟨a,b,c⟩) (rfl|⟨G,q,E⟩)
 ·exact .inl rfl
 ·exact .inr ⟨G,q,E⟩
 ·exact .inr ⟨a,b,c⟩
 exact .inr ⟨a,q,c.trans E⟩
structure ROk(n:Nat)(R:List Nat):Prop where
 len:R.length=n
 lt:∀i,i<n->labA R i<n
 idem:∀i,i<n->labA R (labA R i)=labA R i
theorem V3{L:List Nat}{x:Nat}(h:i<L.length):labA (relbl L y x) i=if labA L i=y then x else labA L i:=by
 rw[O1 (by rw[In];exact h),O1 h];simp[relbl]
theorem ROk.join(h:ROk n R){a:Nat}(hb:b<n)(eb:labA R b=b)(hab:a≠b):ROk n (relbl R a b):=by
 have hl:=h.len;have j:labA (relbl R a b) b=b:=by rw[V3 (by omega),eb,if_neg (Ne.symm hab)]
 refine⟨by rw[In];exact hl,fun i hi=>?_,fun i hi=>?_⟩
 ·rw[V3 (by omega)]
  split
  ·exact hb
  exact h.lt i hi
 rw[V3 (i:=i) (by omega)]
 split
 ·exact j
 rename_i g;rw[V3 (by have:=h.lt i hi;omega),h.idem i hi,if_neg g]
structure Snd(T:List Tm)(M:List Nat)(Bq:Nat->Nat->Prop)(H R:List Nat)(sg:List UInt8->Option Nat)(W:List (Nat×Nat)):Prop where
 rs:∀i j,i<T.length->j<T.length->labA R i=labA R j->Ky T M Bq i j
 ws:∀p∈W,p.1<T.length/\p.2<T.length/\Ky T M Bq p.1 p.2
 ss:∀k u,sg k=some u->u<T.length/\U5 (tmAt T (u:Nat)).op=false/\∃l,k=Xh (labA H u::l)/\l.length=(tmAt T (u:Nat)).kids.length/\∀i,i<l.length->labA l i<T.length/\Ky T M Bq (O9 (tmAt T (u:Nat)) i) (labA l i)
structure HdOk(T:List Tm)(H:List Nat):Prop where
 len:H.length=T.length
 lt:∀i,i<T.length->labA H i<65536
 same:∀i j,i<T.length->j<T.length->(labA H i=labA H j↔((tmAt T (i:Nat)).op=(tmAt T (j:Nat)).op/\(tmAt T (i:Nat)).sort=(tmAt T (j:Nat)).sort/\(tmAt T (i:Nat)).text=(tmAt T (j:Nat)).text/\(tmAt T (i:Nat)).a=(tmAt T (j:Nat)).a/\(tmAt T (i:Nat)).b=(tmAt T (j:Nat)).b))
def Ww(T:List Tm):Prop:=∀i j,i<T.length->j<T.length->tmAt T (i:Nat)=tmAt T (j:Nat)->i=j
theorem Cb{l:List Nat}{x:Nat}(h:x∈l):∃i,i<l.length/\labA l i=x:=by
 obtain⟨i,j,e⟩:=Ya h;exact⟨i,j,by rw[O1 j,e]⟩
theorem Snd.own{Bq:Nat->Nat->Prop}{sg:List UInt8->Option Nat}{W:List (Nat×Nat)}(h:Snd T M Bq H R sg W)(hR:ROk T.length R)(hi:i<T.length):Ky T M Bq i (labA R i):=h.rs _ _ hi (hR.lt i hi) (hR.idem i hi).symm
theorem Ff(hR:ROk T.length R)(hH:HdOk T H)(hT:TmK T)(hn:T.length<=3000){k:Nat}(ht:t<T.length)(hk:k<=(tmAt T (t:Nat)).kids.length):∀x∈sigL T H R t k,x<65536:=by
 intro x hx;unfold sigL at hx
 rcases Ym.1 hx with rfl|hx
 ·exact hH.lt t ht
 obtain⟨i,h,rfl⟩:=Yu.1 hx;have:=hR.lt _ (Kr hT ht (Jn (Yg.1 h) hk));omega
theorem VP{s t:Tm}(h1:s.op=t.op)(h2:s.sort=t.sort)(h3:s.text=t.text)(h4:s.a=t.a)(h5:s.b=t.b)(h6:s.kids=t.kids):s=t:=by
 cases s;cases t;simp only at h1 h2 h3 h4 h5 h6;subst h1 h2 h3 h4 h5 h6;rfl
theorem Snd.twin{Bq:Nat->Nat->Prop}{sg:List UInt8->Option Nat}{W:List (Nat×Nat)}(h:Snd T (madeL T T.length) Bq H R sg W)(hR:ROk T.length R)(hH:HdOk T H)(hT:TmK T)(hU:Ww T)(hn:T.length<=3000){u:Nat}(ht:t<T.length)(hl:U5 (tmAt T (t:Nat)).op=false)(e:sg (Gx T H R t)=some u):u<T.length/\Ky T (madeL T T.length) Bq t u:=by
 obtain⟨E,K,l,Z,el,V⟩:=h.ss _ _ e;refine⟨E,?_⟩;have C:=Ky.cong T (madeL T T.length) Bq;have G:=Db (Ff hR hH hT hn ht leR) (fun x hx=>by
  rcases Ym.1 hx with rfl|hx
  ·exact hH.lt u E
  obtain⟨i,hi,rfl⟩:=Cb hx;have:=(V i hi).1;omega) Z
 unfold sigL at G;rw[List.cons.injEq]at G;obtain⟨Y,O⟩:=G;have j:=(hH.same t u ht E).1 Y;have q:(tmAt T (t:Nat)).kids.length=(tmAt T (u:Nat)).kids.length:=by rw[<-el,<-O];simp
 have a7:l.length=(tmAt T (t:Nat)).kids.length:=by omega
 by_cases J:0<(tmAt T (t:Nat)).kids.length
 ·have m1:t∈madeL T T.length:=List.mem_filter.2 ⟨Yg.2 ht,by simp[Ri,J,hl]⟩;have m2:u∈madeL T T.length:=List.mem_filter.2 ⟨Yg.2 E,by rw[q]at J;simp[Ri,J,K]⟩;refine C.2.2.2.2 t m1 u m2 ⟨j.1,j.2.1,j.2.2.1,j.2.2.2.1,j.2.2.2.2,q⟩ fun i hi=>?_;have k1:=h.own hR (Kr hT ht hi);have k2:=(V i (by omega)).2;have k3:labA l i=labA R (O9 (tmAt T (t:Nat)) i):=by rw[<-O,O1 (by simpa using hi)];simp
  rw[k3]at k2;exact C.2.2.1 _ _ _ k1 (C.2.1 _ _ k2)
 have q1:(tmAt T (t:Nat)).kids=[]:=Jt (by omega);have q2:(tmAt T (u:Nat)).kids=[]:=Jt (by omega);have:=hU t u ht E (VP j.1 j.2.1 j.2.2.1 j.2.2.2.1 j.2.2.2.2 (q1.trans q2.symm));rw[this];exact C.1 u
def LP(sg:List UInt8->Option Nat)(W:List (Nat×Nat))(sg':List UInt8->Option Nat)(W':List (Nat×Nat))(key:List UInt8)(t:Nat):Prop:=(∃u,sg key=some u/\sg'=sg/\W'=W++[(t,u)])∨(sg key=none/\sg'=(fun k=>if k=key then some t else sg k)/\W'=W)
theorem Snd.step{Bq:Nat->Nat->Prop}{sg:List UInt8->Option Nat}{W W':List (Nat×Nat)}(h:Snd T (madeL T T.length) Bq H R sg W)(hR:ROk T.length R)(hH:HdOk T H)(hT:TmK T)(hU:Ww T)(hn:T.length<=3000)(ht:t<T.length)(hl:U5 (tmAt T (t:Nat)).op=false)(hs:LP sg W sg' W' (Gx T H R t) t):Snd T (madeL T T.length) Bq H R sg' W':=by
 rcases hs with⟨u,e,rfl,rfl⟩|⟨e,rfl,rfl⟩
 ·obtain⟨G,E⟩:=h.twin hR hH hT hU hn ht hl e;refine⟨h.rs,fun p hp=>?_,h.ss⟩
  rcases Yc.1 hp with hp|hp
  ·exact h.ws p hp
  rw[J5.1 hp];exact⟨ht,G,E⟩
 refine⟨h.rs,h.ws,fun k u hk=>?_⟩
 replace hk:(if k=Gx T H R t then some t else sg k)=some u:=hk
 split at hk
 ·rename_i ek;cases hk;refine⟨ht,hl,(List.range (tmAt T (t:Nat)).kids.length).map (fun i=>labA R (O9 (tmAt T (t:Nat)) i)),ek,by simp,fun i hi=>?_⟩;have j:i<(tmAt T (t:Nat)).kids.length:=by simpa using hi
  have q:labA ((List.range (tmAt T (t:Nat)).kids.length).map (fun i=>labA R (O9 (tmAt T (t:Nat)) i))) i=labA R (O9 (tmAt T (t:Nat)) i):=by rw[O1 hi];simp
  rw[q];exact⟨hR.lt _ (Kr hT ht j),h.own hR (Kr hT ht j)⟩
 exact h.ss k u hk
theorem Snd.join{Bq:Nat->Nat->Prop}{sg:List UInt8->Option Nat}{W:List (Nat×Nat)}(h:Snd T M Bq H R sg W)(hR:ROk T.length R){a:Nat}(hc:Ky T M Bq a b):Snd T M Bq H (relbl R a b) sg W:=by
 have C:=Ky.cong T M Bq;have hl:=hR.len;refine⟨fun i j hi hj e=>?_,h.ws,h.ss⟩;have own:∀i,i<T.length->Ky T M Bq i (labA (relbl R a b) i):=fun i hi=>by
  rw[V3 (by omega)];have:=h.own hR hi
  split
  ·rename_i g;rw[g]at this;exact C.2.2.1 _ _ _ this hc
  exact this
 have E:=own i hi;have q:=own j hj;rw[<-e]at q;exact C.2.2.1 _ _ _ E (C.2.1 _ _ q)
theorem Snd.put{Bq:Nat->Nat->Prop}{sg:List UInt8->Option Nat}{W:List (Nat×Nat)}(h:Snd T M Bq H R sg W){x:Nat}(hx:x<T.length)(hy:y<T.length)(hc:Ky T M Bq x y):Snd T M Bq H R sg (W++[(x,y)]):=by
 refine⟨h.rs,fun p hp=>?_,h.ss⟩
 rcases Yc.1 hp with hp|hp
 ·exact h.ws p hp
 rw[J5.1 hp];exact⟨hx,hy,hc⟩
def Hv(T:List Tm)(H R:List Nat)(sg:List UInt8->Option Nat)(W:List (Nat×Nat))(t:Nat):Prop:=∃u,sg (Gx T H R t)=some u/\Rj T.length R W t u
theorem Hv.step{sg:List UInt8->Option Nat}{W W':List (Nat×Nat)}{x:Nat}{key:List UInt8}(h:Hv T H R sg W x)(hs:LP sg W sg' W' key t):Hv T H R sg' W' x:=by
 obtain⟨u,e,q⟩:=h
 rcases hs with⟨v,j,rfl,rfl⟩|⟨j,rfl,rfl⟩
 ·exact⟨u,e,q.more (fun p hp=>Va _ hp)⟩
 refine⟨u,?_,q⟩
 show(if Gx T H R x=key then some t else sg (Gx T H R x))=some u
 rw[if_neg (fun g=>by rw[g,j]at e;cases e)];exact e
theorem Hv.new{sg:List UInt8->Option Nat}{W W':List (Nat×Nat)}(hs:LP sg W sg' W' (Gx T H R t) t):Hv T H R sg' W' t:=by
 rcases hs with⟨v,h,rfl,rfl⟩|⟨h,rfl,rfl⟩
 ·exact⟨v,h,.wait (by simp)⟩
 exact⟨t,by simp,Rj.refl _ _ _ _⟩
theorem Rj.join{W:List (Nat×Nat)}(hR:ROk T.length R){a x:Nat}(hx:x<T.length)(hy:y<T.length)(hab:(labA R x=a/\labA R y=b)∨(labA R x=b/\labA R y=a))(h:Rj T.length R ((x,y)::W) i j):Rj T.length (relbl R a b) W i j:=by
 have hl:=hR.len;refine h.mono (fun p q hp hq e=>.base hp hq (by rw[V3 (by omega),V3 (by omega),e])) (fun p hp=>?_)
 rcases Ym.1 hp with rfl|hp
 ·refine .base hx hy ?_;rw[V3 (by omega),V3 (by omega)]
  rcases hab with⟨E,G⟩|⟨E,G⟩
  ·rw[E,G,if_pos rfl];split<;>rfl
  rw[E,G,if_pos rfl];split<;>rfl
 exact .wait hp
theorem Rj.skip{W:List (Nat×Nat)}{x:Nat}(hx:x<T.length)(hy:y<T.length)(hxy:labA R x=labA R y)(h:Rj T.length R ((x,y)::W) i j):Rj T.length R W i j:=by
 refine h.mono (fun p q hp hq e=>.base hp hq e) (fun p hp=>?_)
 rcases Ym.1 hp with rfl|hp
 ·exact .base hx hy hxy
 exact .wait hp
theorem GL(hR:ROk T.length R)(hT:TmK T){a:Nat}(ht:t<T.length)(h:∀i,i<(tmAt T (t:Nat)).kids.length->labA R (O9 (tmAt T (t:Nat)) i)≠a):Gx T H (relbl R a b) t=Gx T H R t:=by
 have hl:=hR.len;unfold Gx sigL
 congr 2
 refine Vu fun i hi=>?_;have j:=Yg.1 hi;rw[V3 (by have:=Kr hT ht j;omega),if_neg (h i j)]
theorem Hv.join{sg:List UInt8->Option Nat}{W:List (Nat×Nat)}(hR:ROk T.length R)(hT:TmK T){a x:Nat}(hx:x<T.length)(hy:y<T.length)(hab:(labA R x=a/\labA R y=b)∨(labA R x=b/\labA R y=a))(ht:t<T.length)(h:Hv T H R sg ((x,y)::W) t){U:Nat->List Nat}(hu:∀i,i<(tmAt T (t:Nat)).kids.length->t∈U (O9 (tmAt T (t:Nat)) i)){I:List Nat}(hI:∀k,k<T.length->labA R k=a->k∈I):Hv T H (relbl R a b) sg W t∨∃k∈I,t∈U k:=by
 by_cases g:∀i,i<(tmAt T (t:Nat)).kids.length->labA R (O9 (tmAt T (t:Nat)) i)≠a
 ·obtain⟨u,e,q⟩:=h;exact .inl ⟨u,by rw[GL hR hT ht g];exact e,q.join hR hx hy hab⟩
 obtain⟨i,g⟩:=Classical.not_forall.1 g;obtain⟨j,g⟩:=Classical.not_imp.1 g;exact .inr ⟨_,hI _ (Kr hT ht j) (Classical.not_not.1 g),hu i j⟩
theorem Hv.skip{sg:List UInt8->Option Nat}{W:List (Nat×Nat)}{x:Nat}(hx:x<T.length)(hy:y<T.length)(hxy:labA R x=labA R y)(h:Hv T H R sg ((x,y)::W) t):Hv T H R sg W t:=by
 obtain⟨u,e,j⟩:=h;exact⟨u,e,j.skip hx hy hxy⟩
def KZ(n:Nat)(R:List Nat)(le:Nat->Nat):Prop:=∀r,r<n->labA R r=r->le r<n/\labA R (le r)=r/\∀x,x<n->labA R x=r->le r<=x
theorem YS{Bq:Nat->Nat->Prop}{L:List Nat}{sg:List UInt8->Option Nat}{le:Nat->Nat}(h:Snd T (madeL T T.length) Bq H R sg [])(hR:ROk T.length R)(hH:HdOk T H)(hT:TmK T)(hl:KZ T.length R le)(hc:∀t∈madeL T T.length,Hv T H R sg [] t)(hB:∀i j,Bq i j->i<T.length/\j<T.length/\Rj T.length R [] i j)(hL:L.length=T.length)(eL:∀i,i<T.length->labA L i=le (labA R i)):Eg T (madeL T T.length) Bq L:=by
 have at':∀i,i<T.length->labA L i<T.length/\labA R (labA L i)=labA R i/\∀x,x<T.length->labA R x=labA R i->labA L i<=x:=fun i hi=>by
  rw[eL i hi];exact hl _ (hR.lt i hi) (hR.idem i hi)
 have q:∀i j,i<T.length->j<T.length->(labA L i=labA L j↔labA R i=labA R j):=fun i j hi hj=>by
  constructor
  ·intro e;rw[<-(at' i hi).2.1,<-(at' j hj).2.1,e]
  intro e;rw[eL i hi,eL j hj,e]
 refine Tg ⟨hL,fun i hi=>?_,fun i hi=>?_,fun i j hi hj e=>?_⟩ (fun i j hb=>?_) (fun x hx y hy ha=>?_) (fun x hx=>Xf hx)
 ·exact(at' i (by omega)).2.2 i (by omega) rfl
 ·have:=at' i (by omega);exact(q _ _ this.1 (by omega)).2 this.2.1
 ·exact h.rs i j (by omega) (by omega) ((q i j (by omega) (by omega)).1 e)
 ·obtain⟨hi,hj,he⟩:=hB i j hb;refine⟨hi,hj,?_⟩
  rcases he.done with rfl|⟨_,_,e⟩
  ·rfl
  exact(q i j hi hj).2 e
 have G:=Xf hx;have J:=Xf hy;obtain⟨⟨h1,h2,h3,h4,h5,h6⟩,hk⟩:=ha;have Y:Gx T H R x=Gx T H R y:=by
  unfold Gx sigL;rw[(hH.same x y G J).2 ⟨h1,h2,h3,h4,h5⟩,<-h6]
  congr 2
  refine Vu fun i hi=>?_;have E:=Yg.1 hi;exact(q _ _ (Kr hT G E) (Kr hT J (by omega))).1 (hk i E)
 obtain⟨u,K,O⟩:=hc x hx;obtain⟨v,ev,V⟩:=hc y hy;rw[Y,ev]at K
 cases K
 have Z:labA R x=labA R u:=by rcases O.done with rfl|⟨_,_,e⟩;rfl;exact e
 have g2:labA R y=labA R u:=by rcases V.done with rfl|⟨_,_,e⟩;rfl;exact e
 exact(q x y G J).2 (Z.trans g2.symm)
def Wl(n:Nat)(R:List Nat)(I:Nat->List Nat):Prop:=∀r,r<n->labA R r=r->(∀x,x∈I r↔x<n/\labA R x=r)/\(I r).Nodup
def updL{α:Type}(I:Nat->α)(b:Nat)(v:α):Nat->α:=fun k=>if k=b then v else I k
theorem U9{α:Type}(I:Nat->α)(b:Nat)(v:α):updL I b v b=v:=if_pos rfl
theorem Es{α:Type}(I:Nat->α){k:Nat}(v:α)(h:k≠b):updL I b v k=I k:=if_neg h
theorem Qo(hR:ROk n R){a:Nat}(_hb:b<n)(eb:labA R b=b)(hab:a≠b){r:Nat}(hr:r<n)(e:labA (relbl R a b) r=r):labA R r=r/\r≠a:=by
 rw[V3 (by have:=hR.len;omega)]at e
 split at e
 ·rename_i g;subst e;rw[eb]at g;exact absurd g.symm hab
 rename_i g;exact⟨e,fun h=>g (by rw[e,h])⟩
theorem Wl.join{I:Nat->List Nat}(h:Wl n R I)(hR:ROk n R){a:Nat}(ha:a<n)(hb:b<n)(ea:labA R a=a)(eb:labA R b=b)(hab:a≠b):Wl n (relbl R a b) (updL I b (I b++I a)):=by
 intro r K e;have hl:=hR.len;obtain⟨V,E⟩:=Qo hR hb eb hab K e;obtain⟨G,a2⟩:=h a ha ea;obtain⟨J,O⟩:=h b hb eb
 by_cases g:r=b
 ·subst g;rw[U9];refine⟨fun x=>?_,List.nodup_append.2 ⟨O,a2,fun x hx y hy exy=>?_⟩⟩
  ·rw[Yc,G,J];constructor
   ·rintro(⟨q,j⟩|⟨q,j⟩)
    ·exact⟨q,by rw[V3 (by omega),j,if_neg (Ne.symm hab)]⟩
    exact⟨q,by rw[V3 (by omega),if_pos j]⟩
   rintro⟨q,j⟩;rw[V3 (by omega)]at j
   split at j
   ·rename_i g;exact .inr ⟨q,g⟩
   exact .inl ⟨q,j⟩
  subst exy;have q:=((J x).1 hx).2;have j:=((G x).1 hy).2;exact hab (j.symm.trans q)
 rw[Es _ _ g];obtain⟨r1,r2⟩:=h r K V;refine⟨fun x=>?_,r2⟩;rw[r1];constructor
 ·rintro⟨q,j⟩;exact⟨q,by rw[V3 (by omega),if_neg (fun g2=>E (j.symm.trans g2)),j]⟩
 rintro⟨q,j⟩;rw[V3 (by omega)]at j
 split at j
 ·exact absurd j.symm g
 exact⟨q,j⟩
theorem KZ.join{le:Nat->Nat}(h:KZ n R le)(hR:ROk n R){a:Nat}(ha:a<n)(hb:b<n)(ea:labA R a=a)(eb:labA R b=b)(hab:a≠b):KZ n (relbl R a b) (updL le b (min (le a) (le b))):=by
 intro r q e;have hl:=hR.len;obtain⟨J,j⟩:=Qo hR hb eb hab q e;obtain⟨O,a2,a3⟩:=h a ha ea;obtain⟨V,E,G⟩:=h b hb eb
 by_cases g:r=b
 ·subst g;rw[U9];refine⟨by omega,?_,fun x hx hx2=>?_⟩
  ·rcases Nat.le_total (le a) (le r)with g|g
   ·rw[Yw g,V3 (by omega),if_pos a2]
   rw[Z3 g,V3 (by omega),E,if_neg (Ne.symm hab)]
  rw[V3 (by omega)]at hx2
  split at hx2
  ·rename_i g;have:=a3 x hx g;omega
  have:=G x hx hx2;omega
 rw[Es _ _ g];obtain⟨r1,r2,K⟩:=h r q J;refine⟨r1,by rw[V3 (by omega),r2,if_neg j],fun x hx hx2=>?_⟩;rw[V3 (by omega)]at hx2
 split at hx2
 ·exact absurd hx2.symm g
 exact K x hx hx2
theorem R7:∀ {n:Nat} {l:List Nat},l.Nodup->(∀x∈l,x<n)->l.length<=n
 | 0,l,_,h=>by
   cases l with
   | nil=>exact leR
   | cons x r=>exact absurd (h x (by simp)) (Jz _)
 | n+1,l,hd,h=>by
   by_cases hm:n∈l
   ·have j:=R7 (n:=n) (hd.erase n) (fun x hx=>by
     have:=(hd.mem_erase_iff).1 hx
     have:=h x this.2
     omega)
    rw[List.length_erase_of_mem hm]at j
    omega
   have j:=R7 (n:=n) hd (fun x hx=>by
    have:=h x hx
    have:x≠n:=fun e=>hm (e ▸ hx)
    omega)
   omega
def ZM(n:Nat)(R:List Nat):Nat:=(List.range n).countP (fun i=>decide (labA R i=i))
theorem KP{l:List Nat}{p q:Nat->Bool}(h:∀x,q x=true->p x=true){a:Nat}(ha:a∈l)(hp:p a=true)(hq:q a=false):l.countP q<l.countP p:=by
 induction l with
 | nil=>cases ha
 | cons x l ih=>
   rw[List.countP_cons,List.countP_cons];have hm:l.countP q<=l.countP p:=List.countP_mono_left (fun x _=>h x)
   rcases Ym.1 ha with rfl|ha
   ·rw[hp,hq];simp;omega
   have:=ih ha
   by_cases e:q x=true
   ·rw[e,h x e];omega
   rw[Bool.not_eq_true]at e;rw[e];simp;omega
theorem RO(hR:ROk n R){a:Nat}(ha:a<n)(hb:b<n)(ea:labA R a=a)(eb:labA R b=b)(hab:a≠b):ZM n (relbl R a b)<ZM n R:=by
 have hl:=hR.len;refine KP (l:=List.range n) (a:=a) ?_ (Yg.2 ha) (by simpa using ea) (by rw[J0,V3 (by omega),if_pos ea];exact Ne.symm hab) |> fun h=>h;intro x hx;rw[J1]at hx ⊢
 by_cases j:x<n
 ·exact(Qo hR hb eb hab j hx).1
 have q:labA (relbl R a b) x=0:=by unfold labA;simp[List.getD,relbl,List.getElem?_eq_none (by omega:R.length<=x)]
 rw[q]at hx;omega
theorem RY(n:Nat)(R:List Nat):ZM n R<=n:=by
 have:=List.countP_le_length (p:=fun i=>decide (labA R i=i)) (l:=List.range n);rw[List.length_range]at this;exact this
end Go.Proofs.YtfkagjelljnpdaaGreatDoor
