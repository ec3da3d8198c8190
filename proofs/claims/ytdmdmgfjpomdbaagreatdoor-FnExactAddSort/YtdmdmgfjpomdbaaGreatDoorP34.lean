import Derived.Test.YtdmdmgfjpomdbaaGreatDoorP00
import Derived.Test.YtdmdmgfjpomdbaaGreatDoorP33
set_option maxRecDepth 100000
set_option maxHeartbeats 8000000
namespace Go.Proofs.YtdmdmgfjpomdbaaGreatDoor
open ChangeShapes WideShapes ChangeAt RowKit Proofs.Tryz
variable {F:List Fn}{S:List (List UInt8)}{T:List Tm}{k:Nat}{num:Tm->Bool}
theorem Book.lower {w W1:World}{kb sb fb tb gb n nS nF nT:Nat}{vS vF vT:Value}{bF:Nat}{W:World}(h:Book W1 kb sb fb tb gb n nS nF nT S F T vS vF vT bF W)(hb:Up w W1):Book w kb sb fb tb gb n nS nF nT S F T vS vF vT bF W:=by
 have d:=hb.size;have h2:=h.ids;exact⟨hb.trans (h.low.mono d),by omega,h.ne,h.box,h.sr,h.fr,h.tr,h.far,h.sm,h.fm,h.tm,h.km⟩
theorem Book.next {w0:World}{kb sb fb tb gb n nS nF nT:Nat}{vS vF vT:Value}{bF:Nat}{W W':World}(h:Book w0 kb sb fb tb gb n nS nF nT S F T vS vF vT bF W)(hb:Up W W'):Book w0 kb sb fb tb gb n nS nF nT S F T vS vF vT bF W':=by
 obtain⟨g,d,h2⟩:=h.km;refine⟨h.low.trans (hb.mono h.low.size),h.ids,h.ne,h.box.bl h.box.lt hb,own_other' h.sr (fun g hg=>hb.block g (h.sr.lt g hg).2),h.fr.keep (fun g cs fz hg _=>?_),h.tr.keep (fun g cs fz hg _=>?_),⟨h.far.1,Yc h.far.2.1 hb.size,h.far.2.2⟩,h.sm.low hb h.sm.lt,h.fm.low hb h.fm.lt,h.tm.low hb h.tm.lt,g,d.low hb d.lt,h2⟩
 ·rcases hg with hg|hg<;>exact hb.block g (Jv.1 hg).1
 rcases hg with hg|hg<;>exact hb.block g (Jv.1 hg).1
theorem Ac {own:List UInt8->Bool}{f:Fn}(h:K4 own f=true):f.args.length<=5:=by
 unfold K4 at h;simp only[J3,Yi] at h;exact h.1.1.1
theorem RN (hk:k<T.length)(h:Hy (Ov (Oc (Oq S))) num F (Od F) (T.take k) T[k]=false):addP S num F T k=false:=by
 unfold addP;rw[Jd hk];simp only;rw[h];rfl
theorem ZS {j:Nat}(hk:k<T.length)(h:Xt (T.take k) T[k]=some j):addP S num F T k=false/\j<k:=by
 refine⟨?_,?_⟩
 ·unfold addP;rw[Jd hk];simp only;rw[h];simp
 unfold Xt at h;obtain⟨d,-⟩:=Zk.1 h;rw[J4] at d;omega
theorem RG (hk:k<T.length)(h:Hy (Ov (Oc (Oq S))) num F (Od F) (T.take k) T[k]=true)(hn:Xt (T.take k) T[k]=none):addP S num F T k=true:=by
 unfold addP;rw[Jd hk];simp only;rw[h,hn];rfl
def ZA (S:List (List UInt8))(num:Tm->Bool)(F:List Fn)(T:List Tm)(w:World)(e:Ending)(w':World):Prop:=
 (Hf S num F T=false/\e=.returned (.tuple #[.pointer none,.bool false])/\Up w w') ∨
 (Hf S num F T=true/\∃ kb sb fb tb gb n vS vF vT bF,e=.returned (.tuple #[.pointer (some ⟨kb,0,none⟩),.bool true])/\n<=200000/\Book w kb sb fb tb gb n S.length F.length T.length S F T vS vF vT bF w')
theorem YP (ps pf pt:Option Addr)(cs cf ct:Nat)(S:List (List UInt8))(num:Tm->Bool)(F:List Fn)(T:List Tm)(w:World)(hS:O3 w (.slice ps S.length cs) S)(hF:E9 w (.slice pf F.length cf) F)(hT:K9 w (.slice pt T.length ct) T)
 (h1:T.length<=3000) (h2:S.length+F.length<=300) (hE:EV w) (hR:RT w) (hzS:∀ s∈S,s.length<=1048576) (hzF:∀ f∈F,f.name.length<=1048576/\(∀ a∈f.args,a.length<=1048576)/\f.sort.length<=1048576) (hzT:∀ t∈T,t.sort.length<=1048576/\t.text.length<=1048576/\t.kids.length<=1048576/\(Lit.int .i64 t.op).wf=true/\(Lit.int .i64 t.a).wf=true/\(Lit.int .i64 t.b).wf=true)
 (hnum:∀ t∈T,t.op=12->((Ov (Oc (Oq S)) t.sort).kind=2∨(Ov (Oc (Oq S)) t.sort).kind=3)->∀ W,Up w W->Calls prog 110 #[.string (Oo t.sort),.string (Oo t.text)] W fun e w'=>e=.returned (.bool (num t))/\Up W w') :
 Calls prog 37 #[.agg #[.slice ps S.length cs,.slice pf F.length cf,.slice pt T.length ct]] w (ZA S num F T w):=by
 have y1:(T.length:Int)<=3000:=by omega
 have y2:(S.length:Int)+(F.length:Int)<=300:=by omega
 have HS:=Hd hS;have HF:=Hd hF;have HT:=Hd hT;have HE:=Hd hE;have HR:=Hd hR;have k7:=Hd hzS;have k1:=Hd hzF;have g9:=Hd hzT;have j6:=Hd hnum;clear hS hF hT hE hR hzS hzF hzT hnum
 go_in
 go_wp2_with fail
 generalize g1:w.alloc (.cells #[.slice ps S.length cs,.slice pf F.length cf,.slice pt T.length ct] 31)=W1;have i8:Bx W1 w.heap.size [.slice ps S.length cs,.slice pf F.length cf,.slice pt T.length ct]:=by rw[<-g1];exact Oi w _ _
 have b6:=Hd i8;have O:Hid (Up w W1):=by unfold Hid;rw[<-g1];exact Oz _ _
 clear i8 g1
 go_cut [4] (fun s4 wx=>∃ kb sb fb tb gb,s4=.pointer (some ⟨kb,0,none⟩)/\Made W1 kb sb fb tb gb wx)
 case first=>
  have o7:=LZ;have o8:=LV;have o9:=@run_makeMap prog;have j5:Hid (∀ W,Up W1 W->W.cell? ⟨w.heap.size,0,none⟩=some (.slice ps S.length cs)/\W.cell? ⟨w.heap.size,1,none⟩=some (.slice pf F.length cf)/\W.cell? ⟨w.heap.size,2,none⟩=some (.slice pt T.length ct)):=fun W h=>(b6.o.bl b6.o.lt h).c3
  go_region_held3 (fun W=>W.cell? ⟨w.heap.size,0,none⟩=some (.slice ps S.length cs)/\W.cell? ⟨w.heap.size,1,none⟩=some (.slice pf F.length cf)/\W.cell? ⟨w.heap.size,2,none⟩=some (.slice pt T.length ct)) (exact j5.o _ (by repeat (first|exact Je _ _|apply Below.drew|apply Ex))) (fail)
  all_goals (go_wp2;go_meet;exact⟨_,_,_,_,_,rfl,LY W1 _ _ _ _ (by omega) (by omega) (by omega) (by omega) (by omega)⟩)
 obtain⟨kb,sb,fb,tb,gb,rfl,hm⟩:=hcut;have HM:=Hd hm;clear hm;obtain⟨b0,b1,b2⟩:=(b6.o.bl b6.o.lt HM.o.low).c3;have r2:=HM.o.box.fz 2;have k2:=HM.o.box.cell 2;simp only[Jm,Js] at k2;obtain⟨i0,d9,j0,j1,j2⟩:=Rc
 go_wp2_with (at_make;refine wpList_make_own _ rfl _ _ 29 rfl (kb+1) 55 i0 _ 6 underlying29 d9 j0 j1 .i64 .i64 _ (T.length+1) rfl rfl ?m1 ?m2 ?m3 ?m4 ?_)
 case m1=>omega
 case m2=>rw[j2];omega
 case m3=>unfold maxLen;omega
 case m4=>exact HM.o.box.lt
 intro w2 d0 c8;have i6:=HM.o.begin c8 d0;have g3:Bx w2 kb [.slice none 0 0,.slice none 0 0,.slice none 0 0,.map (some sb),.map (some fb),.map (some tb),.map (some gb)]:=by
  have A:=HM.o.box.lt;obtain⟨ty,hh⟩:=HM.o.box;exact⟨ty,(c8.block kb A (fun e=>by cases e)).trans hh⟩
 have q2:=g3.cell 2;have f2:=g3.fz 2;simp only[Jm,Js] at q2;have b8:=Hd i6;have n8:=Hd HM.o.low.size;clear b0 b1 b2 r2 k2 d0 c8 g3 i6;have e6:Hid (∀ W,Up W1 W->W.cell? ⟨w.heap.size,0,none⟩=some (.slice ps S.length cs)/\W.cell? ⟨w.heap.size,1,none⟩=some (.slice pf F.length cf)/\W.cell? ⟨w.heap.size,2,none⟩=some (.slice pt T.length ct)):=fun W h=>(b6.o.bl b6.o.lt h).c3;obtain⟨b0,b1,b2⟩:=e6.o _ b8.o.low
 go_wp2_with fail
 clear b0 b1 b2;generalize l4:Value.slice (some ⟨wc.heap.size,0,none⟩) 0 (T.length+1)=vT at b8 ⊢;generalize k8:w2.setCell ⟨kb,2,none⟩ vT=W3 at b8 ⊢;clear l4 k8 q2 f2 i0 d9 j0 j1 j2;have g5:=Hd (HE.o.keep (Below.keep O.o));have g7:=Hd (HR.o.keep (Below.keep O.o))
 go_loopw [59] (fun i wr=>∃ k:Nat,k<=S.length/\i=.int .i64 (k:Nat)/\(∀ j (h:j<S.length),j<k->Ee (Oq (S.take j)) (Od []) S[j]=false)/\∃ vS,BookS W1 kb sb fb tb gb k (S.take k) vS vT wr) (fun i _=>S.length - (intOf i).toNat)
 case atStart=>exact⟨0,Jr _,rfl,fun j _ h=>absurd h (J2 _),_,b8.o⟩
 obtain⟨k,hk,rfl,hp,vS,d⟩:=hrel;have HP:=Hd hp;have E:=Hd d;have G:Hid (Up w wr):=O.o.trans (d.low.mono O.o.size);clear hp d b8
 by_cases A:k<S.length
 ·obtain⟨p3,o2,e1,l1,l2,h3⟩:=HS.o.bl G.o
  cases e1
  rcases h3 with e0|⟨b,rfl,hb,Z⟩
  ·rw[e0] at A;cases A
  have hc:=Z k A;clear Z;unfold maxLen at l2;have i1:(k:Int)<(S.length:Int):=by omega
  have i7:(Oo S[k]).size<=1048576:=by show S[k].toArray.size<=_;simpa using k7.o _ (Jo A)
  have g6:=Hd (E.o.fm.to (by omega));have V:Hid ((S.take k).length=k):=by unfold Hid;rw[J4];omega
  cases M:Ee (Oq (S.take k)) (Od []) S[k]
  ·have U:=Hd (ZT (kb+1) kb sb fb k (S.take k) (Od []) vS vT (.map (some tb)) (.map (some gb)) none 0 0 (Oo S[k]) wr E.o.box E.o.sr E.o.sm (by omega) g6.o i7 E.o.box.lt (fun e=>by have:=Ol E.o.sr _ e;omega) (by rw[Ou];exact M) (by rw[V.o];omega));have b9:=Hd M;clear M
   go_wp2_with fail
   refine U.o.mono ?_;rintro e w4 ⟨rfl,ha⟩;rw[Ou] at ha;obtain⟨l6,Y⟩:=E.o.add ha;have b7:=Hd Y;clear ha Y U
   go_wp2
   go_round
   case rel=>
    refine⟨k+1,by omega,by go_num,fun j hj h2=>?_,l6,?_⟩
    ·rcases J1.1 h2 with h|rfl
     ·exact HP.o j hj h
     exact b9.o
    have:=b7.o;rw[List.take_append_getElem A] at this;exact this
   simp[intOf];omega
  have I:=Hd (T8 kb sb fb (Oq (S.take k)) (Od []) (Oo S[k]) wr E.o.box.c7.2.2.2.1 E.o.box.c7.2.2.2.2.1 (E.o.sm.to (by omega)) g6.o i7 (by rw[Ou];exact M));have HG:=Hd (VJ (num:=num) (F:=F) (T:=T) A M);clear M
  go_wp2_with fail
  refine I.o.mono ?_;rintro e w4 ⟨rfl,rfl⟩;clear I
  go_wp2_with fail
  refine Jg (v:=.tuple #[.pointer none,.bool false]) ?_ rfl (.inl ⟨HG.o,rfl,G.o⟩);simp[results,results37,go_sem]
 have z:decide ((k:Int)<(S.length:Int))=false:=dF (by omega)
 obtain rfl:k=S.length:=by omega
 obtain⟨b0,b1,b2⟩:=e6.o _ E.o.low
 go_wp2_with fail
 clear b0 b1 b2;have d:=E.o.all;rw[Yk] at d;have d3:=Hd d;clear d E;generalize k9:wr.heap.size=bF at d3;clear k9;obtain⟨p0,c0,rfl⟩:=Ed d3.o.sr;have j9:=Hd HP.o;clear HP G hk A z;rename_i wr1
 go_loopw [75] (fun i wr=>∃ k:Nat,k<=F.length/\i=.int .i64 (k:Nat)/\(∀ j (h:j<F.length),j<k->Ee (Oq S) (Od (F.take j)) F[j].name=false/\K4 (Oc (Oq S)) F[j]=true)/\∃ n vF,n<=6*k/\Book W1 kb sb fb tb gb n S.length k 0 S (F.take k) [] (.slice p0 S.length c0) vF vT bF wr) (fun i _=>F.length - (intOf i).toNat)
 case atStart=>exact⟨0,Jr _,rfl,fun j _ h=>absurd h (J2 _),0,_,leR,d3.o⟩
 obtain⟨k,hk,rfl,hp,n,vF,hn,d⟩:=hrel;have HP:=Hd hp;have E:=Hd d;have G:Hid (Up w wr):=O.o.trans (d.low.mono O.o.size);clear hp d d3
 by_cases A:k<F.length
 ·obtain⟨p2,o1,e1,l1,l2,h3⟩:=HF.o.bl G.o
  cases e1
  rcases h3 with e0|⟨b,rfl,hb,Z⟩
  ·rw[e0] at A;cases A
  obtain⟨c0,⟨va,c1,d1⟩,c2⟩:=Z k A;have f8:=Hd d1;obtain⟨pa,ca,rfl,-,-,-⟩:=d1;clear Z;unfold maxLen at l2;have i1:(k:Int)<(F.length:Int):=by omega
  have d5:Hid (F[k]∈F):=Jo A;obtain⟨zn,za,zs⟩:=k1.o _ d5.o;have J:=Hd (E.o.next (Oz wr (.cells #[.string (Oo F[k].name),.slice pa F[k].args.length ca,.string (Oo F[k].sort)] 45)));have b5:=Hd (f8.o.bl (Oz wr (.cells #[.string (Oo F[k].name),.slice pa F[k].args.length ca,.string (Oo F[k].sort)] 45)));obtain⟨g0,d⟩:=J.o.bk (by omega) (by omega) g5.o g7.o;have a8:=Hd d;have V:Hid ((F.take k).length=k):=by unfold Hid;rw[J4];omega
  clear d
  cases M:Ee (Oq S) (Od (F.take k)) F[k].name
  ·cases b3:K4 (Oc (Oq S)) F[k]
   ·have I:=Hd (Cl a8.o F[k] _ b5.o zn za zs (by omega) M b3);have HG:=Hd (IU (num:=num) (T:=T) A b3);clear M b3
    go_wp2_with fail
    refine I.o.mono ?_;rintro e w4 ⟨rfl,n4,g4,-,-,K⟩;have a7:Hid (Up w w4):=(G.o.trans ((Oz wr _).mono G.o.size)).trans (Bar.bl K (by have:=E.o.ids;have:=O.o.size;omega) (G.o.trans ((Oz wr _).mono G.o.size)).size);clear I K
    go_wp2_with fail
    refine Jg (v:=.tuple #[.pointer none,.bool false]) ?_ rfl (.inl ⟨HG.o,rfl,a7.o⟩);simp[results,results37,go_sem]
   obtain⟨X,hX,hr,hA⟩:=J.o.fr;have HX:=Hd hX;have e9:=Hd hr;have e5:=Hd hA;have U:=Hd (Ae a8.o bF k (X.flatMap funC) hr (fun e=>by have:=Ol hr _ e;have:=J.o.far;omega) J.o.fm (by omega) J.o.far.2.1 F[k] _ b5.o (Ac b3) zn za zs (by omega) M b3 (by rw[V.o];omega));have b9:=Hd M;have j7:=Hd b3;clear M b3 hX hr hA
   go_wp2_with fail
   refine U.o.mono ?_;rintro e w4 ⟨rfl,ha⟩;obtain⟨l5,n',l3,Y⟩:=J.o.addF HX.o e9.o e5.o ha;have b7:=Hd Y;clear ha Y U
   go_wp2
   go_round
   case rel=>
    refine⟨k+1,by omega,by go_num,fun j hj h2=>?_,n',l5,by omega,?_⟩
    ·rcases J1.1 h2 with h|rfl
     ·exact HP.o j hj h
     exact⟨b9.o,j7.o⟩
    have:=b7.o;rw[List.take_append_getElem A] at this;exact this
   simp[intOf];omega
  have I:=Hd (Cf a8.o F[k] (.slice pa F[k].args.length ca) zn M);have HG:=Hd (VW (num:=num) (T:=T) A M);clear M
  go_wp2_with fail
  refine I.o.mono ?_;rintro e w4 ⟨rfl,h9⟩;have a7:Hid (Up w w4):=G.o.trans (((Oz wr _).trans (h9.mono (Oz wr _).size)).mono G.o.size);clear I h9
  go_wp2_with fail
  refine Jg (v:=.tuple #[.pointer none,.bool false]) ?_ rfl (.inl ⟨HG.o,rfl,a7.o⟩);simp[results,results37,go_sem]
 have z:decide ((k:Int)<(F.length:Int))=false:=dF (by omega)
 obtain rfl:k=F.length:=by omega
 obtain⟨b0,b1,b2⟩:=e6.o _ E.o.low
 go_wp2_with fail
 clear b0 b1 b2;have d:=E.o;rw[Yk] at d;have d4:=Hd d;clear d E;have j8:=Hd HP.o;clear HP G hk A z
 go_loopw [91] (fun i wr=>∃ k:Nat,k<=T.length/\i=.int .i64 (k:Nat)/\(∀ j,j<T.length->j<k->addP S num F T j=true)/\∃ n vT,n<=1800+60*k/\Book W1 kb sb fb tb gb n S.length F.length k S F (T.take k) (.slice p0 S.length c0) vF vT bF wr) (fun i _=>T.length - (intOf i).toNat)
 case atStart=>exact⟨0,Jr _,rfl,fun j _ h=>absurd h (J2 _),n,_,by omega,d4.o⟩
 clear d4;obtain⟨k,hk,rfl,hp,m,vU,hm,d⟩:=hrel;have HP:=Hd hp;have E:=Hd d;have G:Hid (Up w wr):=O.o.trans (d.low.mono O.o.size);clear hp d
 by_cases A:k<T.length
 ·obtain⟨p4,o3,e1,l1,l2,h3⟩:=HT.o.bl G.o
  cases e1
  rcases h3 with e0|⟨b,rfl,hb,Z⟩
  ·rw[e0] at A;cases A
  obtain⟨o0,c1,c2,c3,c4,va,c5,d1⟩:=Z k A;have f8:=Hd d1;obtain⟨pa,ca,rfl,-,-,-⟩:=d1;clear Z;unfold maxLen at l2;have i1:(k:Int)<(T.length:Int):=by omega
  have d5:Hid (T[k]∈T):=Jo A;obtain⟨zs,zx,zk,l8,l9,m5⟩:=g9.o _ d5.o;have J:=Hd (E.o.next (Oz wr (.cells #[.int .i64 T[k].op,.string (Oo T[k].sort),.string (Oo T[k].text),.int .i64 T[k].a,.int .i64 T[k].b,.slice pa T[k].kids.length ca] 55)));have b5:=Hd (f8.o.bl (Oz wr (.cells #[.int .i64 T[k].op,.string (Oo T[k].sort),.string (Oo T[k].text),.int .i64 T[k].a,.int .i64 T[k].b,.slice pa T[k].kids.length ca] 55)));have b4:Hid (Up w (wr.alloc (.cells #[.int .i64 T[k].op,.string (Oo T[k].sort),.string (Oo T[k].text),.int .i64 T[k].a,.int .i64 T[k].b,.slice pa T[k].kids.length ca] 55))):=G.o.trans ((Oz wr _).mono G.o.size);have e7:Hid (w.heap.size<=gb):=by have:=E.o.ids;have:=O.o.size;unfold Hid;omega
  obtain⟨g0,d⟩:=J.o.bk (by omega) (by omega) g5.o g7.o;have a8:=Hd d;have V:Hid ((T.take k).length=k):=by unfold Hid;rw[J4];omega
  have f9:Hid (∀ u∈T.take k,u.sort.length<=1048576):=fun u hu=>(g9.o u (Yy hu)).1;have e8:Hid (T[k].op=12->((Ov (Oc (Oq S)) T[k].sort).kind=2∨(Ov (Oc (Oq S)) T[k].sort).kind=3)->∀ W,Bar gb (wr.alloc (.cells #[.int .i64 T[k].op,.string (Oo T[k].sort),.string (Oo T[k].text),.int .i64 T[k].a,.int .i64 T[k].b,.slice pa T[k].kids.length ca] 55)) W->Calls prog 110 #[.string (Oo T[k].sort),.string (Oo T[k].text)] W fun e w'=>e=.returned (.bool (num T[k]))/\Up W w'):=fun h12 hk W hW=>j6.o _ d5.o h12 hk W (b4.o.trans (Bar.bl hW e7.o b4.o.size));clear d
  go_wp2_with fail
  cases M:Hy (Ov (Oc (Oq S))) num F (Od F) (T.take k) T[k]
  ·have I:=Hd (T9 a8.o T[k] _ b5.o num (by rw[V.o];omega) zk (by omega) f9.o zs zx (by omega) e8.o M);have HG:=Hd (Lx (S:=S) (num:=num) (F:=F) A (RN A M));clear M;unfold Xz at I;refine I.o.mono ?_;rintro e w4 ⟨rfl,n4,g4,-,-,K⟩;have a7:Hid (Up w w4):=b4.o.trans (Bar.bl K e7.o b4.o.size);clear I K
   go_wp2_with fail
   refine Jg (v:=.tuple #[.pointer none,.bool false]) ?_ rfl (.inl ⟨HG.o,rfl,a7.o⟩);simp[results,results37,go_sem]
  have g8:=Hd (CG M (by rw[V.o];omega) l8 l9 m5 zs zx)
  cases hj:Xt (T.take k) T[k] with
  | some j=>
    have I:=Hd (Ba a8.o J.o.tm J.o.ne.2.2.2.2.2 T[k] _ b5.o num (by rw[V.o];omega) (by omega) f9.o (by omega) g8.o e8.o M j 0 (.inl ⟨j,hj,rfl,rfl⟩));have g2:=ZS (S:=S) (num:=num) (F:=F) A hj;have HG:=Hd (Lx (S:=S) (num:=num) (F:=F) A g2.1);have z1:(j:Int)≠(k:Int):=by have:=g2.2;omega
    clear M hj g2;unfold Xz at I;refine I.o.mono ?_;rintro e w4 ⟨rfl,-,-,-,-,K⟩;have a7:Hid (Up w w4):=b4.o.trans (Bar.bl K e7.o b4.o.size);have z2:=K3 z1;clear I K
    go_wp2_with fail
    refine Jg (v:=.tuple #[.pointer none,.bool false]) ?_ rfl (.inl ⟨HG.o,rfl,a7.o⟩);simp[results,results37,go_sem]
  | none=>
    obtain⟨X,hX,hr,hA⟩:=J.o.tr;have HX:=Hd hX;have e9:=Hd hr;have e5:=Hd hA;have U:=Hd (Wo a8.o J.o.tm (by omega) J.o.ne.2.2.2.2.2 (kb+1) (X.flatMap Ho) hr (fun e=>by have:=Ol hr _ e;omega) J.o.box.lt T[k] _ b5.o num (by rw[V.o];omega) (by omega) f9.o (by omega) g8.o e8.o M hj);rw[V.o] at U;have b9:=Hd (RG A M hj);clear M hj hX hr hA;unfold Xz at U;refine U.o.mono ?_;rintro e w4 ⟨rfl,ha⟩;obtain⟨l7,n',l3,Y⟩:=J.o.addT HX.o e9.o e5.o ha;have b7:=Hd Y;clear ha Y U
    go_wp2
    go_round
    case rel=>
     refine⟨k+1,by omega,by go_num,fun j hj h2=>?_,n',l7,by omega,?_⟩
     ·rcases J1.1 h2 with h|rfl
      ·exact HP.o j hj h
      exact b9.o
     have:=b7.o;rw[List.take_append_getElem A] at this;exact this
    simp[intOf];omega
 have z:decide ((k:Int)<(T.length:Int))=false:=dF (by omega)
 obtain rfl:k=T.length:=by omega
 have HG:Hid (Hf S num F T=true):=IK h1 h2 (fun j hj=>j9.o j hj hj) (fun j hj=>j8.o j hj hj) (fun j hj=>HP.o j hj hj);have d:=E.o.lower O.o;rw[Yk] at d;have d4:=Hd d;clear d E
 go_wp2_with fail
 refine Jg (v:=.tuple #[.pointer (some ⟨kb,0,none⟩),.bool true]) ?_ rfl (.inr ⟨HG.o,kb,sb,fb,tb,gb,m,_,_,_,bF,rfl,by omega,d4.o⟩);simp[results,results37,go_sem]
theorem Tz (ps pf pt:Option Addr)(cs cf ct:Nat)(S:List (List UInt8))(num:Tm->Bool)(F:List Fn)(T:List Tm)(w:World)(hS:O3 w (.slice ps S.length cs) S)(hF:E9 w (.slice pf F.length cf) F)(hT:K9 w (.slice pt T.length ct) T)
 (hlS:S.length<=1048576) (hlF:F.length<=1048576) (hE:EV w) (hR:RT w) (hzS:∀ s∈S,s.length<=1048576) (hzF:∀ f∈F,f.name.length<=1048576/\(∀ a∈f.args,a.length<=1048576)/\f.sort.length<=1048576) (hzT:∀ t∈T,t.sort.length<=1048576/\t.text.length<=1048576/\t.kids.length<=1048576/\(Lit.int .i64 t.op).wf=true/\(Lit.int .i64 t.a).wf=true/\(Lit.int .i64 t.b).wf=true)
 (hnum:∀ t∈T,t.op=12->((Ov (Oc (Oq S)) t.sort).kind=2∨(Ov (Oc (Oq S)) t.sort).kind=3)->∀ W,Up w W->Calls prog 110 #[.string (Oo t.sort),.string (Oo t.text)] W fun e w'=>e=.returned (.bool (num t))/\Up W w') :
 Calls prog 37 #[.agg #[.slice ps S.length cs,.slice pf F.length cf,.slice pt T.length ct]] w (ZA S num F T w):=by
 by_cases h:T.length<=3000/\S.length+F.length<=300
 ·exact YP ps pf pt cs cf ct S num F T w hS hF hT h.1 h.2 hE hR hzS hzF hzT hnum
 have A:Hid (Hf S num F T=false):=by
  unfold Hid Hf
  by_cases j:T.length<=3000
  ·rw[Jc (p:=S.length+F.length<=300) (by omega)];simp
  rw[Jc j];rfl
 obtain⟨p1,O,E,Y,I,-⟩:=hS;obtain⟨p2,U,e2,Z,J,-⟩:=hF;obtain⟨p3,V,G,l5,K,-⟩:=hT
 cases E;cases e2;cases G
 unfold maxLen at I J K;have d:Hid (Up w (w.alloc (.cells #[.slice ps S.length cs,.slice pf F.length cf,.slice pt T.length ct] 31))):=Oz _ _;have y:¬ ((T.length:Int)<=3000/\(S.length:Int)+(F.length:Int)<=300):=by omega
 clear hE hR hzS hzF hzT hnum h
 by_cases j:S.length+F.length<=300
 case' pos=>
  have M:decide ((300:Int)<(S.length:Int)+(F.length:Int))=false:=dF (by omega)
  have y2:decide ((3000:Int)<(T.length:Int))=true:=dT (by omega)
 case' neg=>
  have M:decide ((300:Int)<(S.length:Int)+(F.length:Int))=true:=dT (by omega)
 all_goals
  have y3:(S.length:Int)+(F.length:Int)<=2097152:=by omega
  clear y
  go_in
  go_wp2_with fail
  refine Jg (v:=.tuple #[.pointer none,.bool false]) ?_ rfl (.inl ⟨A.o,rfl,d.o⟩);simp[results,results37,go_sem]
end Go.Proofs.YtdmdmgfjpomdbaaGreatDoor
