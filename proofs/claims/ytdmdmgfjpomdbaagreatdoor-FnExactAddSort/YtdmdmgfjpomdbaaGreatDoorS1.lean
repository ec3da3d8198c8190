import Derived.Test.YtdmdmgfjpomdbaaGreatDoorP00
import Derived.Test.YtdmdmgfjpomdbaaGreatDoorP39
import Derived.Test.YtdmdmgfjpomdbaaGreatDoorP38
set_option linter.all false
set_option maxRecDepth 100000
set_option maxHeartbeats 8000000
namespace Go.Proofs.YtdmdmgfjpomdbaaGreatDoor
open ChangeShapes WideShapes ChangeAt RowKit Proofs.Tryz
theorem GW {F:List Fn}{n:List UInt8}:decide ((0:Int)<=Hc F n)=(Od F n).isSome:=by
 unfold Hc
 cases Od F n with
 | none=>rfl
 | some i=>simp
theorem B7 {vs vf vt:Value}{S:List (List UInt8)}{F:List Fn}{T:List Tm}(s:ByteArray)(w:World)(h:BankAt w vs vf vt S F T)(hs:s.size<=maxLen) :
 Calls prog 31 #[.agg #[vs,vf,vt],.string s] w fun e w'=>e=.returned (.bool (Ee (Oq S) (Od F) s.data.toList))/\Up w w':=by
 have V:=Hd hs;have G:Hid (Up w (w.alloc (.cells #[vs,vf,vt] 31))):=Oz _ _;have I:Hid (Bx (w.alloc (.cells #[vs,vf,vt] 31)) w.heap.size [vs,vf,vt]):=Oi w _ _;have U:=Hd h;obtain⟨a1,c1,Y,-,-,-⟩:=h.s;obtain⟨a2,c2,e2,-,-,-⟩:=h.f;obtain⟨a3,c3,Z,-,-,-⟩:=h.t;subst Y e2 Z;have j:Hid (Ee (Oq S) (Od F) s.data.toList=(Ok S s.data.toList||(Od F s.data.toList).isSome||!(Ng s.data.toList&&!Gj s.data.toList))):=by unfold Hid Ee Ni;rw[idxF_some]
 clear h hs
 go_in
 go_wp2_with fail
 refine (E4 s _ V.o).mono ?_;rintro e w2 ⟨rfl,rfl⟩
 cases O:Ng s.data.toList with
 | false=>
   have A:Hid (Ee (Oq S) (Od F) s.data.toList=true):=by unfold Hid;rw[j.o,O];simp
   go_wp2
   go_ret
   exact⟨Oy A.o.symm,G.o⟩
 | true=>
   go_wp2_with fail
   refine (Fo s _ V.o).mono ?_;rintro e w3 ⟨rfl,E⟩;have d:=G.up E;have M:=Hd (I.o.bl I.o.lt E);clear E
   cases h2:Gj s.data.toList with
   | true=>
     have A:Hid (Ee (Oq S) (Od F) s.data.toList=true):=by unfold Hid;rw[j.o,O,h2];simp
     go_wp2
     go_ret
     exact⟨Oy A.o.symm,d.o⟩
   | false=>
     obtain⟨b0,b1,b2⟩:=M.o.c3
     go_wp2_with fail
     refine (Gm _ S s _ (U.o.bl d.o).s).mono ?_;rintro e w4 ⟨rfl,rfl⟩
     cases h3:Ok S s.data.toList with
     | true=>
       have A:Hid (Ee (Oq S) (Od F) s.data.toList=true):=by unfold Hid;rw[j.o,h3];simp
       go_wp2
       go_ret
       exact⟨Oy A.o.symm,d.o⟩
     | false=>
       go_wp2_with fail
       refine (Ph _ _ _ F s _ (U.o.bl d.o).f).mono ?_;rintro e w5 ⟨rfl,J⟩;have K:=d.up J;have A:Hid (Ee (Oq S) (Od F) s.data.toList=decide ((0:Int)<=Hc F s.data.toList)):=by unfold Hid;rw[j.o,O,h2,h3,GW];simp
       clear J b0 b1 b2
       go_wp2
       go_ret
       exact⟨Oy A.o.symm,K.o⟩
end Go.Proofs.YtdmdmgfjpomdbaaGreatDoor
namespace Go.Proofs.YtdmdmgfjpomdbaaGreatDoor
open ChangeShapes WideShapes ChangeAt RowKit
variable {F:List Fn}{N0 N1:Nat}{S:List (List UInt8)}{T:List Tm}{w:World}
theorem Ag (w:World)(base:Nat):BankN w base (.slice none 0 0) (.slice none 0 0) (.slice none 0 0) [] [] []:=
 ⟨⟨rfl,.inl ⟨rfl,rfl⟩⟩,⟨[],rfl,⟨rfl,.inl ⟨rfl,rfl⟩⟩,(fun x hx=>by cases hx),List.Pairwise.nil⟩,⟨[],rfl,⟨rfl,.inl ⟨rfl,rfl⟩⟩,(fun x hx=>by cases hx),List.Pairwise.nil⟩⟩
theorem PN {num:Tm->Bool}(h:Gn S num F T=true):S.length+F.length<=300:=by
 unfold Gn Gk at h;simp only[J3,Yi] at h;exact h.1.2.1.1
theorem IV (w:World)(N0 N1:Nat):FunsX w N0 N1 (.slice none 0 0) [] []:=by
 refine⟨⟨none,0,rfl,leR,Jr _,.inl ⟨rfl,.inl ⟨rfl,rfl⟩⟩⟩,rfl,?_,?_,?_,?_⟩
 ·intro g c e;cases e
 ·intro i d;cases d
 ·intro i j d;cases d
 intro b hb;cases hb
theorem EP (w:World)(N0 N1:Nat):TermsX w N0 N1 (.slice none 0 0) [] []:=by
 refine⟨⟨none,0,rfl,leR,Jr _,.inl ⟨rfl,.inl ⟨rfl,rfl⟩⟩⟩,rfl,?_,?_,?_,?_⟩
 ·intro g c e;cases e
 ·intro i d;cases d
 ·intro i j d;cases d
 intro b hb;cases hb
theorem GY (w:World)(N0 N1:Nat):BankX w N0 N1 (.slice none 0 0) (.slice none 0 0) (.slice none 0 0) [] [] [] [] []:=by
 refine⟨⟨none,0,rfl,leR,Jr _,.inl ⟨rfl,.inl ⟨rfl,rfl⟩⟩⟩,?_,IV _ _ _,EP _ _ _,?_⟩
 ·intro b hb;cases hb
 intro b hb;cases hb
theorem Cd.w2 {M0 M1 n s:Nat}{e:TypeId}{v:Value}(h:Cd w N0 N1 e s v n)(h0:M0<=N0)(h1:N1<=M1):Cd w M0 M1 e s v n:=by
 obtain⟨p,c,rfl,hc,j,d⟩:=h;refine⟨p,c,rfl,hc,j,?_⟩
 rcases d with d|⟨g,rfl,h2,h3,d⟩
 ·exact .inl d
 exact .inr ⟨g,rfl,Yc h0 h2,Jq h3 h1,d⟩
theorem BankX.w2 {M0 M1:Nat}{vs vf vt:Value}{A B:List Value}(h:BankX w N0 N1 vs vf vt S F T A B)(h0:M0<=N0)(h1:N1<=M1):BankX w M0 M1 vs vf vt S F T A B:=
 ⟨h.s.w2 h0 h1,h.sk,⟨h.f.row.w2 h0 h1,h.f.len,h.f.at',fun i hi hi'=>⟨(h.f.rows i hi hi').1.w2 h0 h1,(h.f.rows i hi hi').2⟩,h.f.apart,h.f.kind⟩,⟨h.t.row.w2 h0 h1,h.t.len,h.t.at',fun i hi hi'=>⟨(h.t.rows i hi hi').1.w2 h0 h1,(h.t.rows i hi hi').2⟩,h.t.apart,h.t.kind⟩,h.sa⟩
theorem BankX.on {P:Nat->Prop}{w':World}{vs vf vt:Value}{A B:List Value}(h:BankX w N0 N1 vs vf vt S F T A B)(ho:OnB P w w')(hn:∀ b,PB vs vf vt A B b->¬ P b):BankX w' N0 N1 vs vf vt S F T A B:=
 ⟨h.s.mk ho.sl,fun b hb=>by obtain⟨n,d⟩:=h.sk b hb;exact⟨n,ho.sl _ _ _ d⟩,h.f.on ho (fun b hb=>hn b (.inr (.inl (.inl hb)))),h.t.on ho (fun b hb=>hn b (.inr (.inr (.inl hb)))),h.sa⟩
end Go.Proofs.YtdmdmgfjpomdbaaGreatDoor
namespace Go.Proofs.YtdmdmgfjpomdbaaGreatDoor
open ChangeShapes WideShapes ChangeAt RowKit Proofs.Tryz
variable {F:List Fn}{S:List (List UInt8)}{T:List Tm}{W w:World}{c1 c2 c3:Nat}{p1 p2 p3:Option Addr}{vf vs vt:Value}
structure AddedQ (base kb sb fb n:Nat)(L M:List (List UInt8))(v0 vT v5 v6:Value)(q:Option Addr)(m d:Nat)(w w':World):Prop where
 row:∃ v1,Bx w' kb [v1,.slice q m d,vT,.map (some sb),.map (some fb),v5,v6]/\w'.ownsRow base 9 1 v1 M.length (strsC M)/\v1.ownBlock≠some kb/\∀ g,v1.ownBlock=some g->v0.ownBlock=some g∨w.heap.size<=g
 names:Ef w' sb (n+1) (Oq M)
 os:w'.os=w.os
 tape:w'.tape=w.tape
 output:w'.output=w.output
 size:w.heap.size<=w'.heap.size
 block:∀ k,k<w.heap.size->k≠kb->k≠sb->v0.ownBlock≠some k->w'.heap[k]? = w.heap[k]?
theorem TU (base kb sb fb n:Nat)(L:List (List UInt8))(f2:List UInt8->Option Nat)(v0 vT v5 v6:Value)(q:Option Addr)(m d:Nat)(s:ByteArray)(w:World)
 (hx:Bx w kb [v0,.slice q m d,vT,.map (some sb),.map (some fb),v5,v6]) (hown:w.ownsRow base 9 1 v0 L.length (strsC L)) (hS:Ef w sb n (Oq L)) (hnn:n<=1000) (hF:Hm w fb f2) (hs:s.size<=1048576) (hb:base<=w.heap.size)
 (hrk:v0.ownBlock≠some kb) (hf:Ee (Oq L) f2 s.data.toList=false) (hm:L.length+m<300) :
 Calls prog 38 #[.pointer (some ⟨kb,0,none⟩),.string s] w fun e w'=>e=.returned (.tuple #[.int .i64 (L.length:Nat),.int .i64 0])/\AddedQ base kb sb fb n L (L++[s.data.toList]) v0 vT v5 v6 q m d w w':=by
 obtain⟨p0,c0,rfl⟩:=Ed hown;have HX:=Hd hx;have b4:=Hd hown;have g0:=Hd hS;have HS:=Hd (hS.to hnn);have HF:=Hd hF;have e9:Hid (Oq L s.data.toList=none):=by
  unfold Hid;simp only[Ee,Bool.or_eq_false_iff] at hf
  cases h:Oq L s.data.toList with
  | none=>rfl
  | some i=>rw[h] at hf;simp at hf
 have g7:kb<w.heap.size:=hx.lt;have d4:=Hd (hS.to hnn).lt;have h7:=Hd hF.lt;have e7:Hid (Hg (Oq L) f2 s.data.toList=0):=by unfold Hid Hg;rw[hf];rfl
 clear hx hown hS hF hf
 go_in
 go_wp2_with fail
 refine (Gv kb sb fb (Oq L) f2 s _ HX.o.c7.2.2.2.1 HX.o.c7.2.2.2.2.1 HS.o HF.o hs).mono ?_;rw[e7.o];rintro e w1 ⟨rfl,rfl⟩
 go_wp2_with fail
 refine (Xd kb p0 q L.length c0 m d _ HX.o.c7.1 HX.o.c7.2.1 (by omega) (by omega)).mono ?_;rw[Jc (by omega)];rintro e w2 ⟨rfl,hb2⟩;have a7:=Hd (HX.o.bl g7 hb2);have M:=Hd (own_other' b4.o (fun g hg=>hb2.block g (b4.o.lt g hg).2));have d3:=Hd (HS.o.bl hb2 d4.o);have d0:=Hd hb2;clear hb2;have a0:=a7.o.cell 0;have a3:=a7.o.cell 3;simp only[Jm,Js] at a0 a3
 go_wp2_with fail
 refine (N5 s _ hs).mono ?_;rintro e w3 ⟨rfl,U⟩;have b9:=Hd (a7.o.bl a7.o.lt U);have G:=Hd (own_other' M.o (fun g hg=>U.block g (M.o.lt g hg).2));have f9:=Hd (d3.o.bl U d3.o.lt);have j:=Hd (d0.o.trans (U.mono d0.o.size));clear U a0 a3;obtain⟨a0,a1,a2,a3,a4,a5,a6⟩:=b9.o.c7;obtain⟨D,Z,hD⟩:=(g0.o.low (j.o) d4.o);have b7:=Hd Z;have e6:=Hd hD;clear Z hD
 go_wp2_with (at_mapUpdate;refine wpList_mapUpdate_own _ rfl _ _ _ 75 rfl 9 3 Xc underlying75 (plainElem prog 3) sb n D rfl b7.o (by unfold maxLen;omega) _ _ _ rfl rfl (Gl s (by unfold maxLen;omega)) (.lit (.int .i64 (L.length:Nat))) [] (plainElem_int underlying3 ?wf) ?_)
 case wf=>exact EA (by omega)
 intro w4 V I;have e1:sb≠kb:=NF f9.o b9.o;have b6:(Value.slice p0 L.length c0).ownBlock≠some sb:=fun e=>by
  obtain⟨cs,fz,hk⟩:=Kp G.o sb e;obtain⟨es,cl,E,_⟩:=b7.o;rw[hk] at E
  cases E
 have a8:=Hd (Ly b9.o I (Ne.symm e1));have b8:=Hd (own_other' G.o (fun g hg=>I.block g (G.o.lt g hg).2 (fun e=>b6 (hg.trans e))));have d1:=Hd V;have A:=Hd I;clear V I a0 a1 a2 a3 a4 a5 a6;obtain⟨a0,a1,a2,a3,a4,a5,a6⟩:=a8.o.c7;have r0:=a8.o.fz 0
 go_wp2_with (at_builtin;refine N4 (t:=s) (n:=L.length) (base:=base) (xs:=strsC L) rfl _ _ rfl rfl ?own _ rfl ?hH ?hn ?hb ?_)
 case own=>exact b8.o
 case hH=>rfl
 case hn=>omega
 case hb=>exact Yc (Yc hb j.o.size) A.o.size
 intro g5 c5 w5 Y J O;have h0:kb<w4.heap.size:=a8.o.lt;have e0:sb<w4.heap.size:=by
  obtain⟨es,cl,E,_⟩:=d1.o;exact (Jv.1 E).1
 have b3:Bx w5 kb [.slice p0 L.length c0,.slice q m d,vT,.map (some sb),.map (some fb),v5,v6]:=by
  obtain⟨ty,h⟩:=a8.o.alloc (.cells #[.string s] 9);exact⟨ty,(J.block kb (by simp;omega) (fun e=>hrk e.symm)).trans h⟩
 have d9:Ef w5 sb (n+1) (Oq (L++[s.data.toList])):=by
  obtain⟨es,cl,E,c6⟩:=d1.o;exact Ef.put e6.o b7.o.isMap e9.o ⟨es,cl,(J.block sb (by simp;omega) (fun e=>b6 e.symm)).trans (((Oz w4 _).block sb e0).trans E),c6⟩
 have b5:(Value.slice (some ⟨g5,0,none⟩) (L.length+1) c5).ownBlock≠some kb:=fun e=>by
  have e':g5=kb:=Option.some.inj e
  rcases O with h|h
  ·rw[e'] at h;exact hrk h
  omega
 obtain⟨y0,y1,y2,y3,y4,y5,y6⟩:=b3.c7;have z0:=b3.fz 0;have g1:=Hd b3;have e8:=Hd d9;have f8:=Hd Y;have d2:=Hd b5;have K:=Hd J;have e5:Hid ((Value.slice p0 L.length c0).ownBlock=some g5∨w1.heap.size<=g5):=by
  rcases O with h|h
  ·exact .inl h
  exact .inr (by have:=A.o.size;have:=j.o.size;omega)
 clear b3 d9 Y J O b5 a0 a1 a2 a3 a4 a5 a6 r0
 go_wp2_with fail
 refine Jg (v:=.tuple #[.int .i64 (L.length:Nat),.int .i64 0]) ?_ rfl ⟨rfl,?_⟩
 ·simp[results,results38,go_sem]
 have hL:(L++[s.data.toList]).length=L.length+1:=by simp
 have hC:strsC (L++[s.data.toList])=strsC L++[.string s]:=by simp[strsC,Kq]
 have c8:∀ k,k≠kb->(w5.setCell ⟨kb,0,none⟩ (.slice (some ⟨g5,0,none⟩) (L.length+1) c5)).heap[k]? = w5.heap[k]? := fun k hk=>Jh w5 ⟨kb,0,none⟩ _ k hk;refine⟨⟨_,g1.o.set 0 _,?_,d2.o,fun g hg=>by cases hg;exact e5.o⟩,?_,?_,?_,?_,?_,?_⟩
 ·rw[hL,hC];exact own_other' f8.o (fun g hg=>c8 g (fun e=>d2.o (by rw[hg,e])))
 ·obtain⟨D',⟨es,cl,E,c6⟩,g2⟩:=e8.o;exact⟨D',⟨es,cl,(c8 sb e1).trans E,c6⟩,g2⟩
 ·exact K.o.os.trans (A.o.os.trans j.o.os)
 ·exact K.o.tape.trans (A.o.tape.trans j.o.tape)
 ·exact K.o.output.trans (A.o.output.trans j.o.output)
 ·have h5:=K.o.size;have h4:=A.o.size;have h3:=j.o.size;simp only[World.setCell,Z9];simp at h5;omega
 intro k hk g3 g4 g6;have h4:=A.o.size;have h3:=j.o.size;rw[c8 k g3,K.o.block k (by simp;omega) (fun e=>g6 e.symm),(Oz w4 _).block k (by omega),A.o.block k (by omega) (fun e=>g4 (Option.some.inj e)),j.o.block k hk]
theorem TO (kb sb fb:Nat)(f1 f2:List UInt8->Option Nat)(p0 q:Option Addr)(m0 c0 m d:Nat)(s:ByteArray)(w:World)(hc0:w.cell? ⟨kb,0,none⟩=some (.slice p0 m0 c0))(hc1:w.cell? ⟨kb,1,none⟩=some (.slice q m d))(hc3:w.cell? ⟨kb,3,none⟩=some (.map (some sb)))(hc4:w.cell? ⟨kb,4,none⟩=some (.map (some fb)))(hm1:Hm w sb f1)(hm2:Hm w fb f2)(hs:s.size<=1048576)(hf:Ee f1 f2 s.data.toList=false)(hful:300<=m0+m)(hl:m0<=1000000/\m<=1000000) :
 Calls prog 38 #[.pointer (some ⟨kb,0,none⟩),.string s] w fun e w'=>e=.returned (.tuple #[.int .i64 0,.int .i64 4])/\Up w w':=by
 have G:=Hd (Gv kb sb fb f1 f2 s w hc3 hc4 hm1 hm2 hs);have E:Hid (Hg f1 f2 s.data.toList=0):=by unfold Hid Hg;rw[hf];rfl
 have h:=Hd (Xd kb p0 q m0 c0 m d w hc0 hc1 hl.1 hl.2);rw[Ja hful] at h;clear hm1 hm2 hf
 go_in
 go_wp2_with fail
 refine G.o.mono ?_;rw[E.o];rintro e I ⟨rfl,rfl⟩
 go_wp2_with fail
 refine h.o.mono ?_;rintro e J ⟨rfl,j⟩;have A:=Hd j;clear j
 go_wp2_with fail
 refine Jg (v:=.tuple #[.int .i64 0,.int .i64 4]) ?_ rfl ⟨rfl,A.o⟩;simp[results,results38,go_sem]
def SM (S:List (List UInt8))(F:List Fn)(T:List Tm)(s:List UInt8):Int:=if Gn S Gt F T=false then 1 else if Ee (Oq S) (Od F) s=true then 2 else if 300<=S.length+F.length then 4 else 0
def SW (S:List (List UInt8))(F:List Fn)(T:List Tm)(s:List UInt8):Int:=if SM S F T s=0 then (S.length:Int) else 0
def SB (S:List (List UInt8))(F:List Fn)(T:List Tm)(s:List UInt8):List (List UInt8):=if SM S F T s=1 then [] else if SM S F T s=0 then S++[s] else S
def SA (S:List (List UInt8))(F:List Fn)(T:List Tm)(s:List UInt8):List Fn:=if SM S F T s=1 then [] else F
def ST (S:List (List UInt8))(F:List Fn)(T:List Tm)(s:List UInt8):List Tm:=if SM S F T s=1 then [] else T
structure BkS (w0:World)(kb sb fb tb gb:Nat)(S:List (List UInt8))(F:List Fn)(T:List Tm)(vF vT:Value)(W:World):Prop where
 low:Up w0 W
 kl:w0.heap.size<=kb
 ex:∃ vS A B,Bx W kb [vS,vF,vT,.map (some sb),.map (some fb),.map (some tb),.map (some gb)]/\BankN W (kb+1) vS vF vT S F T/\BankX W w0.heap.size W.heap.size vS vF vT S F T A B/\∀ b,PB vS vF vT A B b->w0.heap.size<=b
theorem Book.s {w0:World}{kb sb fb tb gb n nS nF nT:Nat}{vS vF vT:Value}{bF:Nat}{W':World}(h:Book w0 kb sb fb tb gb n nS nF nT S F T vS vF vT bF W)(hb:Up W W'):BkS w0 kb sb fb tb gb S F T vF vT W':=by
 have E:=h.ids;have G:=h.far;obtain⟨A,B,j,hl⟩:=h.x;have d:BankN W (kb+1) vS vF vT S F T:=⟨h.sr,h.fr.lower (by omega),h.tr⟩;exact⟨h.low.trans (hb.mono h.low.size),E.1,vS,A,B,h.box.bl h.box.lt hb,d.keep (fun k _ hk=>hb.block k hk),(j.on ((OnB.refl (fun _=>False) W).bl hb) (fun _ _ h=>h)).w2 leR hb.size,hl⟩
theorem SJ {w0:World}{kb sb fb tb gb n:Nat}{vS vF vT:Value}{bF:Nat}(s:ByteArray)(h:Book w0 kb sb fb tb gb n S.length F.length T.length S F T vS vF vT bF W)(hg:Gn S Gt F T=true)(hs:s.size<=1048576) :
 Calls prog 38 #[.pointer (some ⟨kb,0,none⟩),.string s] W fun e w'=>e=.returned (.tuple #[.int .i64 (SW S F T s.data.toList),.int .i64 (SM S F T s.data.toList)])/\BkS w0 kb sb fb tb gb (SB S F T s.data.toList) F T vF vT w':=by
 have c8:=PN hg;have M:¬ Gn S Gt F T=false:=by rw[hg];decide
 have a8:=h.sm.to (by omega);have K:=h.fm.to (by omega);have hc:=h.box.c7
 cases E:Ee (Oq S) (Od F) s.data.toList with
 | true=>
   have G:SM S F T s.data.toList=2:=by unfold SM;rw[if_neg M,if_pos E]
   refine (T8 kb sb fb (Oq S) (Od F) s W hc.2.2.2.1 hc.2.2.2.2.1 a8 K hs E).mono ?_;rintro e w' ⟨rfl,rfl⟩;refine⟨by unfold SW;rw[G];rfl,?_⟩;unfold SB;rw[G,if_neg (by decide),if_neg (by decide)];exact h.s (Je _ _)
 | false=>
   have J:¬ Ee (Oq S) (Od F) s.data.toList=true:=by rw[E];decide
   obtain⟨p0,c0,rfl,-⟩:=Xg h.sr;obtain⟨q0,d0,rfl,-⟩:=h.fr.at
   by_cases A:300<=S.length+F.length
   ·have G:SM S F T s.data.toList=4:=by unfold SM;rw[if_neg M,if_neg J,if_pos A]
    refine (TO kb sb fb (Oq S) (Od F) p0 q0 S.length c0 F.length d0 s W hc.1 hc.2.1 hc.2.2.2.1 hc.2.2.2.2.1 a8 K hs E A (by omega)).mono ?_;rintro e w' ⟨rfl,hb⟩;refine⟨by unfold SW;rw[G];rfl,?_⟩;unfold SB;rw[G,if_neg (by decide),if_neg (by decide)];exact h.s hb
   have G:SM S F T s.data.toList=0:=by unfold SM;rw[if_neg M,if_neg J,if_neg A]
   have I:=h.far;have d4:=h.box.lt;have hi:=h.ids;refine (TU (kb+1) kb sb fb S.length S (Od F) (.slice p0 S.length c0) vT (.map (some tb)) (.map (some gb)) q0 F.length d0 s W h.box h.sr h.sm (by omega) K hs (by omega) (fun e=>by have:=Ol h.sr _ e;omega) E (by omega)).mono ?_;rintro e w' ⟨rfl,ha⟩;refine⟨by unfold SW;rw[G,if_pos rfl],?_⟩;unfold SB;rw[G,if_neg (by decide),if_pos rfl];obtain⟨v1,hx,hr,d5,b5⟩:=ha.row;have d:∀ (k:Nat) cs ty fz,W.heap[k]? = some (.cells cs ty fz)->k≠kb->(Value.slice p0 S.length c0).ownBlock≠some k->w'.heap[k]? = W.heap[k]? := fun k cs ty fz hc hk h0=>ha.block k (Jv.1 hc).1 hk (fun e=>h.sm.no_cells (e ▸ hc)) h0;obtain⟨X,hX,O,j,a7⟩:=h.fr;have Y:∀ g c z,(W.heap[g]? = some (.cells c 45 z)∨W.heap[g]? = some (.cells c 9 z))->bF<=g->w'.heap[g]? = W.heap[g]? := fun g c z hg hge=>by
    rcases hg with hg|hg<;>exact d g c _ z hg (by omega) (fun e=>by have:=I.2.2 g e;omega)
   have U:w'.ownsRow bF 45 3 (.slice q0 F.length d0) F.length (X.flatMap funC):=own_other' O (fun g hg=>by obtain⟨c,z,hc⟩:=Kp O g hg;exact Y g c z (.inl hc) (Ol O g hg));have V:∀ x∈X,w'.ownsRow bF 9 1 x.2 x.1.args.length (strsC x.1.args):=fun x hx=>own_other' (j x hx) (fun g hg=>by obtain⟨c,z,hc⟩:=Kp (j x hx) g hg;exact Y g c z (.inr hc) (Ol (j x hx) g hg));have ht:K8 w' (kb+1) vT T:=h.tr.keep (fun g c z hg hge=>by
    rcases hg with hg|hg
    ·exact d g c _ z hg (by omega) (I3 h.sr hg (by decide))
    exact d g c _ z hg (by omega) (I3 h.sr hg (by decide)))
   obtain⟨B,hB,b6⟩:=ht.x (N0:=w0.heap.size) (by omega);have Z:∀ a∈X.map Prod.snd,∀ b,a.ownBlock=some b->bF<=b/\b<W.heap.size:=fun a ha' b hb=>by
    obtain⟨x,hx,rfl⟩:=Zh.1 ha';exact⟨Ol (j x hx) b hb,((j x hx).lt b hb).2⟩
   subst hX;refine⟨⟨ha.os.trans h.low.os,ha.tape.trans h.low.tape,ha.output.trans h.low.output,Yc h.low.size ha.size,fun k hk=>(ha.block k (by have:=h.low.size;omega) (by omega) (by omega) (fun e=>by have:=Ol h.sr k e;omega)).trans (h.low.block k hk)⟩,hi.1,v1,X.map Prod.snd,B,hx,⟨hr,Ec.lower ⟨X,rfl,U,V,a7⟩ (by omega),ht⟩,⟨Cy hr (by omega) leR,Mp hr,FunsX.of U V a7 (by omega),hB,fun b hb a ha' e=>?_⟩,fun b hb=>?_⟩
   ·have h1:=Z a ha' b e
    rcases b5 b hb with h2|h2
    ·have:=I.2.2 b h2;omega
    omega
   rcases hb with hb|(hb|⟨a,ha',hb⟩)|(hb|⟨a,ha',hb⟩)
   ·have:=Ol hr b hb;omega
   ·have:=Ol U b hb;omega
   ·have:=Z a ha' b hb;omega
   ·obtain⟨X,-,b7,-⟩:=ht;have:=Ol b7 b hb;omega
   have:=b6 a ha' b hb;omega
theorem TK (h:BankO w vs vf vt S F T)(hs:SmallB S F T) :
 Calls prog 33 #[.agg #[vs,vf,vt]] w fun e w'=>∃ us uf ut,e=.returned (.agg #[us,uf,ut])/\w'.ownsRow w.heap.size 9 1 us S.length (strsC S)/\Ec w' w.heap.size uf F/\K8 w' w.heap.size ut T/\Up w w'/\∃ N,w.heap.size<=N/\(∀ g,us.ownBlock=some g->g<N)/\Ec w' N uf F:=
 UM h.at' h.s h.f h.t hs.s.1 hs.f.1 hs.t.1 (fun f hf=>(hs.f.2 f hf).2.1.1) (fun t ht=>(hs.t.2 t ht).2.2)
theorem TN {s:ByteArray}:strsC (S++[s.data.toList])=strsC S++[.string s]:=by simp[strsC,Kq]
theorem BankN.addS {base N:Nat}{us uf ut v1:Value}{W':World}{o:Obj}{sl:List UInt8}(h:BankN W base us uf ut S F T)(hN:base<=N)(hu:∀ g,us.ownBlock=some g->g<N)(hf:Ec W N uf F)
 (hg:(W.alloc o).grownBy W' us.ownBlock) (hr1:W'.ownsRow base 9 1 v1 (S.length+1) (strsC (S++[sl]))):BankN W' base v1 uf ut (S++[sl]) F T:=by
 have hk:∀ k,k<W.heap.size->us.ownBlock≠some k->W'.heap[k]? = W.heap[k]? := fun k hk h1=>by
  rw[hg.block k (by simp;omega) (fun e=>h1 e.symm)];exact Below.block (Oz W o) k hk
 refine⟨by rw[Yn];exact hr1,(hf.keep fun g cs fz hc hge=>?_).lower hN,h.t.keep fun g cs fz hc hge=>?_⟩
 ·rcases hc with hc|hc<;>exact hk g (Jv.1 hc).1 (fun e=>by have:=hu g e;omega)
 rcases hc with hc|hc
 ·exact hk g (Jv.1 hc).1 (I3 h.s hc (by decide))
 exact hk g (Jv.1 hc).1 (I3 h.s hc (by decide))
theorem TZ (s:ByteArray)(h:BankO w vs vf vt S F T)(hz:BankZ S F T)(hs:SmallB S F T)(hvs:∃ ad n c,vs=.slice (some ad) n c)(hn:s.size<=1048576) :
 Calls prog 7 #[.agg #[vs,vf,vt],.string s] w fun e w'=>∃ us uf ut,e=.returned (.agg #[.int .i64 (SM S F T s.data.toList),.int .i64 (SW S F T s.data.toList),us,uf,ut])/\BankN w' w.heap.size us uf ut (SB S F T s.data.toList) (SA S F T s.data.toList) (ST S F T s.data.toList)/\Up w w':=by
 have HO:=Hd h;have h6:=Hd (fun W (hb:Up w W)=>Lh (h.at'.bl hb) hz hvs);have HS:=Hd hs;obtain⟨a1,c1,e1,-,-,-⟩:=h.at'.s;obtain⟨a2,c2,e2,-,-,-⟩:=h.at'.f;obtain⟨a3,c3,e3,-,-,-⟩:=h.at'.t;subst e1 e2 e3;have n2:=hs.s.1;have n3:=hs.f.1;obtain⟨sl,g4⟩:=Oa s.data.toList;have j1:=Hd g4;rw[g4];clear h hz hvs hs g4
 go_in
 go_upto_region 1 with fail
 obtain⟨W3,j9,k0,x1,x3,k1⟩:=VO w [.slice a1 S.length c1,.slice a2 F.length c2,.slice a3 T.length c3] [.int .i64 0,.int .i64 0,.slice none 0 0,.slice none 0 0,.slice none 0 0] 31 33;rw[j9];clear j9;have g6:=Hd k0;have d1:=Hd x1;have g1:=Hd x3;have i7:=Hd k1;obtain⟨b0,b1,b2⟩:=d1.o.c3;clear k0 x1 x3 k1
 go_wp2_with fail
 clear b0 b1 b2;refine (h6.o W3 g6.o).mono ?_;rintro e w4 ⟨rfl,b5⟩;have b9:=g6.up b5;have b3:=Hd (d1.o.bl d1.o.lt b5);have d:=Hd (g1.o.bl g1.o.lt b5);have i8:Hid (w.heap.size+1+1<=w4.heap.size):=by have:=b5.size;have:=i7.o;unfold Hid;omega
 clear b5 d1 g1 h6 i7
 cases d6:Gn S Gt F T with
 | false=>
   have HE:Hid (SM S F T sl=1):=by unfold Hid SM;rw[if_pos d6]
   have r0:=d.o.cell 0;have r1:=d.o.cell 1;have r2:=d.o.cell 2;have r3:=d.o.cell 3;have r4:=d.o.cell 4;obtain⟨f0,f1,f2,f3,f4⟩:=d.o.f5;clear d6
   go_wp2_with fail
   obtain⟨WE,E,A,V,hh⟩:=YB d.o b9.o (show w.heap.size<=w.heap.size+1 by omega) (.int .i64 1) (.int .i64 0) (.slice none 0 0) (.slice none 0 0) (.slice none 0 0);rw[E];have e0:=A.cell 0;have e1:=A.cell 1;have e2:=A.cell 2;have e3:=A.cell 3;have e4:=A.cell 4;refine Jg (v:=.agg #[.int .i64 1,.int .i64 0,.slice none 0 0,.slice none 0 0,.slice none 0 0]) ?_ rfl ⟨.slice none 0 0,.slice none 0 0,.slice none 0 0,?_,?_,V⟩
   ·clear A V hh E;simp[results,results7,go_sem,e0,e1,e2,e3,e4]
   ·unfold SW;rw[HE.o];rfl
   unfold SB SA ST;rw[HE.o];exact Ag _ _
 | true=>
   have j3:Hid (∀ (k:Int),SM S F T sl=k->k≠0->k≠1->∀ w5 w6 p1 q1 p2 q2 p3 q3,Up w w5->Bx w5 (w.heap.size+1) [.int .i64 0,.int .i64 0,.slice none 0 0,.slice none 0 0,.slice none 0 0]->w.heap.size+1+1<=w5.heap.size->Up w5 w6->BankN w6 w5.heap.size (.slice p1 S.length q1) (.slice p2 F.length q2) (.slice p3 T.length q3) S F T ->
    ∃ WE,((((w6.setCell ⟨w.heap.size+1,0,none⟩ (.int .i64 k)).setCell ⟨w.heap.size+1,1,none⟩ (.int .i64 0)).setCell ⟨w.heap.size+1,2,none⟩ (.slice p1 S.length q1)).setCell ⟨w.heap.size+1,3,none⟩ (.slice p2 F.length q2)).setCell ⟨w.heap.size+1,4,none⟩ (.slice p3 T.length q3)=WE/\Bx WE (w.heap.size+1) [.int .i64 k,.int .i64 0,.slice p1 S.length q1,.slice p2 F.length q2,.slice p3 T.length q3]/\∃ us uf ut,Ending.returned (.agg #[.int .i64 k,.int .i64 0,.slice p1 S.length q1,.slice p2 F.length q2,.slice p3 T.length q3])=.returned (.agg #[.int .i64 (SM S F T sl),.int .i64 (SW S F T sl),us,uf,ut])/\BankN WE w.heap.size us uf ut (SB S F T sl) (SA S F T sl) (ST S F T sl)/\Up w WE):=fun k hk h0 h1 w5 w6 p1 q1 p2 q2 p3 q3 hb5 hx hsz hb6 hN=>by
    obtain⟨WE,E,A,V,hh⟩:=YB (hx.bl hx.lt hb6) (hb5.trans (hb6.mono hb5.size)) (show w.heap.size<=w.heap.size+1 by omega) (.int .i64 k) (.int .i64 0) (.slice p1 S.length q1) (.slice p2 F.length q2) (.slice p3 T.length q3);refine⟨WE,E,A,.slice p1 S.length q1,.slice p2 F.length q2,.slice p3 T.length q3,?_,?_,V⟩
    ·unfold SW;rw[hk,if_neg h0]
    unfold SB SA ST;rw[hk,if_neg h1,if_neg h0,if_neg h1,if_neg h1];exact (hN.keep (w':=WE) (fun j hj _=>hh j (by omega))).lower hb5.size
   have HG:=Hd d6;obtain⟨b0,b1,b2⟩:=b3.o.c3;clear d6
   go_wp2_with fail
   refine (B7 s w4 (HO.o.at'.bl b9.o) (by unfold maxLen;omega)).mono ?_;rw[j1.o];rintro e w5 ⟨rfl,hb5⟩;have U:=b9.up hb5;have b3:=Hd (b3.o.bl b3.o.lt hb5);have d:=Hd (d.o.bl d.o.lt hb5);have f9:Hid (w.heap.size+1+1<=w5.heap.size):=by have:=hb5.size;have:=i8.o;unfold Hid;omega
   clear hb5 b0 b1 b2 b9 i8;obtain⟨b0,b1,b2⟩:=b3.o.c3
   cases d7:Ee (Oq S) (Od F) sl with
   | true=>
     have HE:Hid (SM S F T sl=2):=by unfold Hid SM;rw[if_neg (by rw[HG.o];decide),if_pos d7]
     clear d7
     go_wp2_with fail
     refine (Dj 2 (HO.o.bl U.o) HS.o).mono ?_;rintro e w6 ⟨us,uf,ut,rfl,hN,hb6⟩;obtain⟨p1,q1,rfl,-,-,-⟩:=hN.at.s;obtain⟨p2,q2,rfl,-,-,-⟩:=hN.at.f;obtain⟨p3,q3,rfl,-,-,-⟩:=hN.at.t;have Y:=Hd (d.o.bl d.o.lt hb6);have f8:=Hd (j3.o 2 HE.o (by decide) (by decide) w5 w6 p1 q1 p2 q2 p3 q3 U.o d.o f9.o hb6 hN);have r0:=Y.o.cell 0;have r1:=Y.o.cell 1;have r2:=Y.o.cell 2;have r3:=Y.o.cell 3;have r4:=Y.o.cell 4;obtain⟨f0,f1,f2,f3,f4⟩:=Y.o.f5;clear hN hb6
     go_wp2_with fail
     obtain⟨WE,E,A,hR⟩:=f8.o;rw[E];have e0:=A.cell 0;have e1:=A.cell 1;have e2:=A.cell 2;have e3:=A.cell 3;have e4:=A.cell 4;refine Jg (v:=.agg #[.int .i64 2,.int .i64 0,.slice p1 S.length q1,.slice p2 F.length q2,.slice p3 T.length q3]) ?_ rfl hR;clear A E hR;simp[results,results7,go_sem,e0,e1,e2,e3,e4]
   | false=>
     have h8:=Hd d7;clear d7
     by_cases e8:300<=S.length+F.length
     ·have HE:Hid (SM S F T sl=4):=by unfold Hid SM;rw[if_neg (by rw[HG.o];decide),if_neg (by rw[h8.o];decide),if_pos e8]
      have y4:decide ((300:Int)<=(S.length:Int)+(F.length:Int))=true:=Ja (by omega)
      go_wp2_with fail
      refine (Dj 4 (HO.o.bl U.o) HS.o).mono ?_;rintro e w6 ⟨us,uf,ut,rfl,hN,hb6⟩;obtain⟨p1,q1,rfl,-,-,-⟩:=hN.at.s;obtain⟨p2,q2,rfl,-,-,-⟩:=hN.at.f;obtain⟨p3,q3,rfl,-,-,-⟩:=hN.at.t;have Y:=Hd (d.o.bl d.o.lt hb6);have f8:=Hd (j3.o 4 HE.o (by decide) (by decide) w5 w6 p1 q1 p2 q2 p3 q3 U.o d.o f9.o hb6 hN);have r0:=Y.o.cell 0;have r1:=Y.o.cell 1;have r2:=Y.o.cell 2;have r3:=Y.o.cell 3;have r4:=Y.o.cell 4;obtain⟨f0,f1,f2,f3,f4⟩:=Y.o.f5;clear hN hb6
      go_wp2_with fail
      obtain⟨WE,E,A,hR⟩:=f8.o;rw[E];have e0:=A.cell 0;have e1:=A.cell 1;have e2:=A.cell 2;have e3:=A.cell 3;have e4:=A.cell 4;refine Jg (v:=.agg #[.int .i64 4,.int .i64 0,.slice p1 S.length q1,.slice p2 F.length q2,.slice p3 T.length q3]) ?_ rfl hR;clear A E hR;simp[results,results7,go_sem,e0,e1,e2,e3,e4]
     have HE:Hid (SM S F T sl=0):=by unfold Hid SM;rw[if_neg (by rw[HG.o];decide),if_neg (by rw[h8.o];decide),if_neg e8]
     have y4:decide ((300:Int)<=(S.length:Int)+(F.length:Int))=false:=Jc (by omega)
     go_wp2_with fail
     refine (TK (HO.o.bl U.o) HS.o).mono ?_;rintro e J ⟨us,uf,ut,rfl,h1,h2,h3,d5,N,j6,j7,j5⟩;have b4:BankN J w5.heap.size us uf ut S F T:=⟨h1,h2,h3⟩;obtain⟨p1,q1,rfl,-,-,-⟩:=b4.at.s;obtain⟨p2,q2,rfl,-,-,-⟩:=b4.at.f;obtain⟨p3,q3,rfl,-,-,-⟩:=b4.at.t;have d0:=Hd b4;have l2:=Hd j6;have l3:=Hd j7;have g9:=Hd j5;have g7:=U.up d5;have d:=Hd (d.o.bl d.o.lt d5);have l5:Hid (w.heap.size+1+1<=w5.heap.size/\w5.heap.size<=J.heap.size):=⟨f9.o,d5.size⟩;clear b4 h1 h2 h3 d5 b0 b1 b2 j6 j7 j5
     go_upto_region 8 with fail
     obtain⟨W9,Z⟩:=Oa (J.alloc (.cells #[.slice p1 S.length q1,.slice p2 F.length q2,.slice p3 T.length q3] 31));have h9:Up J W9:=by rw[<-Z];exact Oz _ _
     have k8:Bx W9 J.heap.size [.slice p1 S.length q1,.slice p2 F.length q2,.slice p3 T.length q3]:=by rw[<-Z];exact Oi J _ _
     have a7:=Hd k8;have g0:Hid (∃ cs fz,W9.heap[J.heap.size]? = some (.cells cs 31 fz)):=by unfold Hid;rw[<-Z];exact⟨_,_,Vg⟩
     have e5:=Hd (d0.o.keep (w':=W9) (fun k _ hk=>h9.block k hk));have i6:Hid (Ec W9 N (.slice p2 F.length q2) F):=g9.o.keep (fun g _ _ hg _=>h9.block g (by rcases hg with hg|hg<;>exact (Jv.1 hg).1));have K:=g7.up h9;have d:=Hd (d.o.bl d.o.lt h9);have l0:Hid (∀ g,(Value.slice p1 S.length q1).ownBlock=some g->w5.heap.size<=g/\g<J.heap.size):=fun g hg=>⟨Ol d0.o.s g hg,(d0.o.s.lt g hg).2⟩;have j0:Hid (W9.heap.size=J.heap.size+1):=by unfold Hid;rw[<-Z];simp
     have z1:=a7.o.c3.1;have n4:=l5.o;rw[Z];clear Z h9 k8 d0 g7 g9
     go_wp2_with (at_builtin;refine N4 (t:=s) (n:=S.length) (base:=w5.heap.size) (xs:=strsC S) rfl _ _ rfl rfl ?own2 _ rfl ?hH2 ?hn2 ?hb2 ?_)
     case own2=>exact e5.o.s
     case hH2=>rfl
     case hn2=>omega
     case hb2=>have:=j0.o;omega
     intro g8 c8 O e9 I k7;have l7:=j0.o;have h7:=Hd (e5.o.addS (sl:=sl) l2.o l3.o i6.o I (by rw[<-j1.o,TN];exact e9));have M:∀ k,k<W9.heap.size->(k<w5.heap.size∨J.heap.size<=k)->O.heap[k]? = W9.heap[k]? := fun k hk hk2=>by
      rw[I.block k (by simp;omega) (fun e=>by have:=l0.o k e.symm;omega)];exact Below.block (Oz W9 _) k hk
     have a8:Hid (Bx O J.heap.size [.slice p1 S.length q1,.slice p2 F.length q2,.slice p3 T.length q3]):=by
      obtain⟨ty,hh⟩:=a7.o;exact⟨ty,(M _ (by omega) (.inr leR)).trans hh⟩
     have j2:Hid (Bx O (w.heap.size+1) [.int .i64 0,.int .i64 0,.slice none 0 0,.slice none 0 0,.slice none 0 0]):=by
      obtain⟨ty,hh⟩:=d.o;exact⟨ty,(M _ (by omega) (.inl (by omega))).trans hh⟩
     have g5:Hid (Up w O):=⟨I.os.trans K.o.os,I.tape.trans K.o.tape,I.output.trans K.o.output,by have:=I.size;have:=K.o.size;simp at *;omega,fun k hk=>(M k (by omega) (.inl (by omega))).trans (K.o.block k hk)⟩;have n1:=a8.o.c3.1;have nf:=a8.o.fz 0;have d9:Hid (Bx (O.setCell ⟨J.heap.size,0,none⟩ (.slice (some ⟨g8,0,none⟩) (S.length+1) c8)) J.heap.size [.slice (some ⟨g8,0,none⟩) (S.length+1) c8,.slice p2 F.length q2,.slice p3 T.length q3]):=a8.o.set 0 _;have l6:w.heap.size+1≠J.heap.size:=by omega
     have G:=Hd (AR j2.o l6 0 (.slice (some ⟨g8,0,none⟩) (S.length+1) c8));have d8:Hid (Up w (O.setCell ⟨J.heap.size,0,none⟩ (.slice (some ⟨g8,0,none⟩) (S.length+1) c8))):=g5.o.setCell (p:=⟨J.heap.size,0,none⟩) (by show w.heap.size<=J.heap.size;omega) _;have e6:Hid (BankN (O.setCell ⟨J.heap.size,0,none⟩ (.slice (some ⟨g8,0,none⟩) (S.length+1) c8)) w5.heap.size (.slice (some ⟨g8,0,none⟩) (S.length+1) c8) (.slice p2 F.length q2) (.slice p3 T.length q3) (S++[sl]) F T):=by
      obtain⟨cs,fz,h⟩:=g0.o;exact h7.o.keepT ((M _ (by omega) (.inr leR)).trans h)
     clear e9 I k7 M z1 a7 d l7
     go_upto_region 9 with fail
     obtain⟨m8,e7⟩:=Oa (O.setCell ⟨J.heap.size,0,none⟩ (.slice (some ⟨g8,0,none⟩) (S.length+1) c8));rw[e7] at d9 G d8 e6 ⊢;clear e7 n1 nf;obtain⟨i0,i1,i2⟩:=d9.o.c3;have r0:=G.o.cell 0;have r1:=G.o.cell 1;have r2:=G.o.cell 2;have r3:=G.o.cell 3;have r4:=G.o.cell 4;obtain⟨f0,f1,f2,f3,f4⟩:=G.o.f5;have n0:((S.length:Int)+1) - 1=(S.length:Int):=by omega
     go_wp2_with fail
     obtain⟨WE,E,A,V,hh⟩:=YB G.o d8.o (show w.heap.size<=w.heap.size+1 by omega) (.int .i64 0) (.int .i64 S.length) (.slice (some ⟨g8,0,none⟩) (S.length+1) c8) (.slice p2 F.length q2) (.slice p3 T.length q3);rw[E];have hN:=(e6.o.keep (w':=WE) (fun k hk _=>hh k (by omega))).lower U.o.size;have e0:=A.cell 0;have e1:=A.cell 1;have e2:=A.cell 2;have e3:=A.cell 3;have e4:=A.cell 4;refine Jg (v:=.agg #[.int .i64 0,.int .i64 S.length,.slice (some ⟨g8,0,none⟩) (S.length+1) c8,.slice p2 F.length q2,.slice p3 T.length q3]) ?_ rfl ⟨.slice (some ⟨g8,0,none⟩) (S.length+1) c8,.slice p2 F.length q2,.slice p3 T.length q3,?_,?_,V⟩
     ·clear A V hh E hN;simp[results,results7,go_sem,e0,e1,e2,e3,e4]
     ·unfold SW;rw[HE.o,if_pos rfl]
     unfold SB SA ST;rw[HE.o,if_neg (by decide),if_pos rfl,if_neg (by decide),if_neg (by decide)];exact hN
def TG (S:List (List UInt8))(F:List Fn)(T:List Tm)(sl:List UInt8)(w:World)(e:Ending)(w':World):Prop:=
 ∃ p1 c1 p2 c2 p3 c3 A B,e=.returned (.agg #[.int .i64 (SM S F T sl),.int .i64 (SW S F T sl),.slice p1 (SB S F T sl).length c1,.slice p2 (SA S F T sl).length c2,.slice p3 (ST S F T sl).length c3]) /\
  BankX w' w.heap.size w'.heap.size (.slice p1 (SB S F T sl).length c1) (.slice p2 (SA S F T sl).length c2) (.slice p3 (ST S F T sl).length c3) (SB S F T sl) (SA S F T sl) (ST S F T sl) A B/\(∀ b,PB (.slice p1 (SB S F T sl).length c1) (.slice p2 (SA S F T sl).length c2) (.slice p3 (ST S F T sl).length c3) A B b->w.heap.size<=b)/\BankN w' w.heap.size (.slice p1 (SB S F T sl).length c1) (.slice p2 (SA S F T sl).length c2) (.slice p3 (ST S F T sl).length c3) (SB S F T sl) (SA S F T sl) (ST S F T sl)/\Up w w'
theorem TY (s:ByteArray)(h:BankAt w vs vf vt S F T)(hz:BankZ S F T)(hv:Vars w)(hn:s.size<=1048576) :
 Calls prog 9 #[.agg #[vs,vf,vt],.string s] w (TG S F T s.data.toList w):=by
 have U:=Hd (fun W (hb:Up w W)=>DK (h.bl hb) hz (hv.bl hb));obtain⟨a1,c1,V,-,-,-⟩:=h.s;obtain⟨a2,c2,e2,-,-,-⟩:=h.f;obtain⟨a3,c3,Y,-,-,-⟩:=h.t;subst V e2 Y;have G:=Hd (fun (w0:World) (kb sb fb tb gb n:Nat) (vS vF vT:Value) (bF:Nat) (W:World) (h:Book w0 kb sb fb tb gb n S.length F.length T.length S F T vS vF vT bF W) (hg:Gn S Gt F T=true)=>SJ s h hg hn);generalize s.data.toList=sl at G ⊢;clear h hz hv
 go_in
 go_upto_region 1 with fail
 obtain⟨W3,b8,c6,x1,x3,b3⟩:=VO w [.slice a1 S.length c1,.slice a2 F.length c2,.slice a3 T.length c3] [.int .i64 0,.int .i64 0,.slice none 0 0,.slice none 0 0,.slice none 0 0] 31 33;rw[b8];clear b8;have I:=Hd c6;have e5:=Hd x1;have M:=Hd x3;have d9:=Hd b3;obtain⟨b0,b1,b2⟩:=e5.o.c3;clear c6 x1 x3 b3
 go_wp2_with fail
 clear b0 b1 b2;refine (U.o W3 I.o).mono ?_;rintro e w4 (⟨hg,rfl,Z⟩|⟨hg,kb,sb,fb,tb,gb,n,vS,vF,vT,bF,rfl,hn,c8⟩)
 ·have HE:Hid (SM S F T sl=1):=by unfold Hid SM;rw[if_pos (by rw[<-Li];exact hg)]
  have d6:=I.up Z;have d:=Hd (M.o.bl M.o.lt Z);have r0:=d.o.cell 0;have r1:=d.o.cell 1;have r2:=d.o.cell 2;have r3:=d.o.cell 3;have r4:=d.o.cell 4;obtain⟨f0,f1,f2,f3,f4⟩:=d.o.f5;clear hg Z U
  go_wp2_with fail
  obtain⟨WE,E,j,J,hh⟩:=YB d.o d6.o (show w.heap.size<=w.heap.size+1 by omega) (.int .i64 1) (.int .i64 0) (.slice none 0 0) (.slice none 0 0) (.slice none 0 0);rw[E];have e0:=j.cell 0;have V:=j.cell 1;have e2:=j.cell 2;have Y:=j.cell 3;have e4:=j.cell 4;refine Jg (v:=.agg #[.int .i64 1,.int .i64 0,.slice none 0 0,.slice none 0 0,.slice none 0 0]) ?_ rfl ?_
  ·clear j J hh E;simp[results,results9,go_sem,e0,V,e2,Y,e4]
  unfold TG SW SB SA ST;rw[HE.o];exact⟨none,0,none,0,none,0,[],[],rfl,GY _ _ _,(fun b hb=>by rcases hb with hb|(hb|⟨a,ha,hb⟩)|(hb|⟨a,ha,hb⟩)<;>first|cases hb|cases ha),Ag _ _,J⟩
 have a7:Gn S Gt F T=true:=by rw[<-Li];exact hg
 have b4:=Hd (G.o _ _ _ _ _ _ _ _ _ _ _ _ c8 a7);have HE:Hid (¬ SM S F T sl=1):=by
  unfold Hid SM;rw[if_neg (by rw[a7];decide)]
  split
  ·decide
  split<;>decide
 clear hg hn c8 a7 U G
 go_wp2_with fail
 refine b4.o.mono ?_;rintro e w5 ⟨rfl,hB⟩;obtain⟨K,a8,i1,A,B,O,hN,hX,d0⟩:=hB;have d7:=I.up K;have d:=Hd (M.o.bl M.o.lt K);obtain⟨p1,d1,V,-⟩:=hN.at.s;obtain⟨p2,d2,e2,-⟩:=hN.at.f;obtain⟨p3,d3,Y,-⟩:=hN.at.t;subst V e2 Y;have HN:=Hd hN;have HX:=Hd hX;have b5:=Hd d0;have d8:=Hd a8;obtain⟨k0,k1,k2,-⟩:=O.c7;have r0:=d.o.cell 0;have r1:=d.o.cell 1;have r2:=d.o.cell 2;have r3:=d.o.cell 3;have r4:=d.o.cell 4;obtain⟨f0,f1,f2,f3,f4⟩:=d.o.f5;clear b4 K hN hX d0 O a8
 go_wp2_with fail
 obtain⟨WE,E,j,J,hh⟩:=YB d.o d7.o (show w.heap.size<=w.heap.size+1 by omega) (.int .i64 (SM S F T sl)) (.int .i64 (SW S F T sl)) (.slice p1 (SB S F T sl).length d1) (.slice p2 F.length d2) (.slice p3 T.length d3);have hO:OnB (fun b=>b=w.heap.size+1) w5 WE:=by
  rw[<-E];exact (((((OnB.refl (fun b=>b=w.heap.size+1) w5).set rfl 0 _).set rfl 1 _).set rfl 2 _).set rfl 3 _).set rfl 4 _
 have b3:=d9.o;have a8:=d8.o;have b9:=(HX.o.on hO (fun b hb e=>by have:=b5.o b hb;omega)).w2 I.o.size hO.size;have b6:=(HN.o.keep (w':=WE) (fun k hk _=>hh k (by omega))).lower (show w.heap.size<=kb+1 by omega);rw[E];have e0:=j.cell 0;have V:=j.cell 1;have e2:=j.cell 2;have Y:=j.cell 3;have e4:=j.cell 4;refine Jg (v:=.agg #[.int .i64 (SM S F T sl),.int .i64 (SW S F T sl),.slice p1 (SB S F T sl).length d1,.slice p2 F.length d2,.slice p3 T.length d3]) ?_ rfl ?_
 ·clear j J hh E hO b9 b6;simp[results,results9,go_sem,e0,V,e2,Y,e4]
 unfold TG;have g1:SA S F T sl=F:=by unfold SA;rw[if_neg HE.o]
 have g2:ST S F T sl=T:=by unfold ST;rw[if_neg HE.o]
 rw[g1,g2];exact⟨p1,d1,p2,d2,p3,d3,A,B,rfl,b9,(fun b hb=>Yc I.o.size (b5.o b hb)),b6,J⟩
theorem It {q1 q2 q3:Option Addr}{d1 d2 d3:Nat}(er id:Int)(w:World)(h1:BankAt w (.slice p1 S.length c1) (.slice p2 F.length c2) (.slice p3 T.length c3) S F T)(h2:BankAt w (.slice q1 S.length d1) (.slice q2 F.length d2) (.slice q3 T.length d3) S F T) :
 Calls prog 10 #[.agg #[.int .i64 er,.int .i64 id,.slice p1 S.length c1,.slice p2 F.length c2,.slice p3 T.length c3],.agg #[.int .i64 er,.int .i64 id,.slice q1 S.length d1,.slice q2 F.length d2,.slice q3 T.length d3]] w fun e w'=>e=.returned (.bool true)/\Up w w':=by
 obtain⟨K,A,hb2,O,U,J⟩:=VO w [.int .i64 er,.int .i64 id,.slice p1 S.length c1,.slice p2 F.length c2,.slice p3 T.length c3] [.int .i64 er,.int .i64 id,.slice q1 S.length d1,.slice q2 F.length d2,.slice q3 T.length d3] 33 33;have G:=Hd hb2;have d:=Hd O;have h:=Hd U;have V:=Hd (Cj K (h1.bl hb2) (h2.bl hb2));have j:=Hd A;clear A hb2 O U J h1 h2
 go_in
 go_upto_region 1 with fail
 have M:(w.alloc (.cells #[.int .i64 er,.int .i64 id,.slice p1 S.length c1,.slice p2 F.length c2,.slice p3 T.length c3] 33)).alloc (.cells #[.int .i64 er,.int .i64 id,.slice q1 S.length d1,.slice q2 F.length d2,.slice q3 T.length d3] 33)=K:=j.o;rw[M];clear M j;have a0:=d.o.cell 0;have a1:=d.o.cell 1;have a2:=d.o.cell 2;have a3:=d.o.cell 3;have a4:=d.o.cell 4;have b0:=h.o.cell 0;have b1:=h.o.cell 1;have b2:=h.o.cell 2;have Y:=h.o.cell 3;have Z:=h.o.cell 4
 go_wp2_with fail
 refine V.o.mono ?_;rintro e w3 ⟨rfl,E⟩;have I:=G.up E;clear E a0 a1 a2 a3 a4 b0 b1 b2 Y Z
 go_wp2
 go_ret
 exact⟨rfl,I.o⟩
theorem Mh (N0 N1:Nat){A B:List Value}(er id:Int)(w:World)(h:BankX w N0 N1 (.slice p1 S.length c1) (.slice p2 F.length c2) (.slice p3 T.length c3) S F T A B)(hs:SmallB S F T) :
 Calls prog 13 #[.agg #[.int .i64 er,.int .i64 id,.slice p1 S.length c1,.slice p2 F.length c2,.slice p3 T.length c3],.int .i64 1] w fun e w'=>e=.returned (.int .i64 (kB S F T:Nat))/\OnB (PB (.slice p1 S.length c1) (.slice p2 F.length c2) (.slice p3 T.length c3) A B) w w'/\HeldB w' (.slice p1 S.length c1) (.slice p2 F.length c2) (.slice p3 T.length c3) S F T A B:=by
 have E:Hid (Up w (w.alloc (.cells #[.int .i64 er,.int .i64 id,.slice p1 S.length c1,.slice p2 F.length c2,.slice p3 T.length c3] 33))):=Oz _ _;have d:Hid (Bx (w.alloc (.cells #[.int .i64 er,.int .i64 id,.slice p1 S.length c1,.slice p2 F.length c2,.slice p3 T.length c3] 33)) w.heap.size [.int .i64 er,.int .i64 id,.slice p1 S.length c1,.slice p2 F.length c2,.slice p3 T.length c3]):=Oi w _ _;have J:Hid (OnB (PB (.slice p1 S.length c1) (.slice p2 F.length c2) (.slice p3 T.length c3) A B) w (w.alloc (.cells #[.int .i64 er,.int .i64 id,.slice p1 S.length c1,.slice p2 F.length c2,.slice p3 T.length c3] 33))):=(OnB.refl _ w).bl E.o;have M:=Hd (Fy N0 N1 _ (h.on ((OnB.refl (fun _=>False) w).bl E.o) (fun _ _ h=>h)) hs);have a2:=d.o.cell 2;have a3:=d.o.cell 3;have a4:=d.o.cell 4;clear h hs
 go_in
 go_wp2_with fail
 refine M.o.mono ?_;rintro e w2 ⟨rfl,U,O⟩;have K:=Hd (J.o.trans U);have G:=Hd O;clear U O M a2 a3 a4;obtain⟨V,j⟩:=Oa (kB S F T);rw[j];have I:=Hd j;clear j
 go_wp2
 go_ret
 exact⟨Eo (congrArg (fun n:Nat=>(n:Int)) I.o.symm),K.o,G.o⟩
theorem Q6 {A B:List Value}(er id:Int)(w:World)(sh:ShB (.slice p1 S.length c1) (.slice p2 F.length c2) (.slice p3 T.length c3) S F T A B)(h:HeldB w (.slice p1 S.length c1) (.slice p2 F.length c2) (.slice p3 T.length c3) S F T A B)(hs:SmallB S F T) :
 Calls prog 14 #[.agg #[.int .i64 er,.int .i64 id,.slice p1 S.length c1,.slice p2 F.length c2,.slice p3 T.length c3],.int .i64 1] w fun e w'=>e=.returned (.int .i64 (kB S F T:Nat))/\Up w w':=by
 have j:Hid (Up w (w.alloc (.cells #[.int .i64 er,.int .i64 id,.slice p1 S.length c1,.slice p2 F.length c2,.slice p3 T.length c3] 33))):=Oz _ _;have d:Hid (Bx (w.alloc (.cells #[.int .i64 er,.int .i64 id,.slice p1 S.length c1,.slice p2 F.length c2,.slice p3 T.length c3] 33)) w.heap.size [.int .i64 er,.int .i64 id,.slice p1 S.length c1,.slice p2 F.length c2,.slice p3 T.length c3]):=Oi w _ _;have I:=Hd (OQ _ sh (h.bl j.o) hs);have a2:=d.o.cell 2;have a3:=d.o.cell 3;have a4:=d.o.cell 4;clear h hs sh;obtain⟨kk,E⟩:=Oa (kB S F T);rw[E] at I ⊢;have y:decide ((kk:Int)<0)=false:=Jc (by omega);clear E
 go_in
 go_wp2_with fail
 refine I.o.mono ?_;rintro e w2 ⟨rfl,hb⟩;have G:=j.up hb;clear hb I a2 a3 a4
 go_wp2
 go_ret
 exact⟨rfl,G.o⟩
theorem BT (hs:SmallB S F T):0<kB S F T/\kB S F T<=900000000000000:=by
 have d:=Ds (k:=1+S.length) (fun f hf=>(hs.f.2 f hf).2.1.1) F.length leR;have h2:=L9 (k:=kfF F (1+S.length) F.length) (fun t ht=>(hs.t.2 t ht).2.2) T.length leR;have h3:=hs.s.1;have h4:=hs.f.1;have h5:=hs.t.1;have h:1+S.length<=kfF F (1+S.length) F.length:=Nat.le_add_right _ _;have j:kfF F (1+S.length) F.length<=kB S F T:=Nat.le_add_right _ _;have A:kB S F T=kfT T (kfF F (1+S.length) F.length) T.length:=rfl;omega
end Go.Proofs.YtdmdmgfjpomdbaaGreatDoor
