import Derived.Test.YtipgjenolpofpaaGreatDoorP39
set_option maxRecDepth 100000
set_option maxHeartbeats 8000000
namespace Go.Proofs.YtipgjenolpofpaaGreatDoor
open Go.ChangeShapes Go.WideShapes Go.ChangeAt Go.RowKit Go.Proofs.Tryz
theorem Book.lower {w W1:World}{kb sb fb tb gb n nS nF nT:Nat}{S:List (List UInt8)}{F:List Fn}{T:List Tm}{vS vF vT:Value}{bF:Nat}{W:World}(h:Book W1 kb sb fb tb gb n nS nF nT S F T vS vF vT bF W)(hb:Up w W1):Book w kb sb fb tb gb n nS nF nT S F T vS vF vT bF W:=by
 have d:=hb.size;have j:=h.ids;exact⟨hb.trans (h.low.mono d),by omega,h.ne,h.box,h.sr,h.fr,h.tr,h.far,h.sm,h.fm,h.tm,h.km⟩
theorem Book.next {w0:World}{kb sb fb tb gb n nS nF nT:Nat}{S:List (List UInt8)}{F:List Fn}{T:List Tm}{vS vF vT:Value}{bF:Nat}{W W':World}(h:Book w0 kb sb fb tb gb n nS nF nT S F T vS vF vT bF W)(hb:Up W W'):Book w0 kb sb fb tb gb n nS nF nT S F T vS vF vT bF W':=by
 obtain⟨g,d,j⟩:=h.km;refine⟨h.low.trans (hb.mono h.low.size),h.ids,h.ne,h.box.below h.box.lt hb,Oi h.sr (fun g hg=>hb.block g (h.sr.lt g hg).2),h.fr.keep (fun g cs fz hg _=>?_),h.tr.keep (fun g cs fz hg _=>?_),⟨h.far.1,Yk h.far.2.1 hb.size,h.far.2.2⟩,h.sm.low hb h.sm.lt,h.fm.low hb h.fm.lt,h.tm.low hb h.tm.lt,g,d.low hb d.lt,j⟩
 ·rcases hg with hg|hg<;>exact hb.block g (J2.1 hg).1
 rcases hg with hg|hg<;>exact hb.block g (J2.1 hg).1
theorem UT {own:List UInt8->Bool}{f:Fn}(h:Kj own f=true):f.args.length<=5:=by
 unfold Kj at h;simp only[J4,Yg] at h;exact h.1.1.1
theorem XZ {S:List (List UInt8)}{num:Tm->Bool}{F:List Fn}{T:List Tm}{k:Nat}(hk:k<T.length)(h:Gx (Ov (Oh (Og S))) num F (Oq F) (T.take k) T[k]=false):addP S num F T k=false:=by
 unfold addP;rw[Jf hk];simp only;rw[h];rfl
theorem VI {S:List (List UInt8)}{num:Tm->Bool}{F:List Fn}{T:List Tm}{k j:Nat}(hk:k<T.length)(h:Im (T.take k) T[k]=some j):addP S num F T k=false/\j<k:=by
 refine⟨?_,?_⟩
 ·unfold addP;rw[Jf hk];simp only;rw[h];simp
 unfold Im at h;obtain⟨d,-⟩:=Zk.1 h;rw[J3] at d;omega
theorem XR {S:List (List UInt8)}{num:Tm->Bool}{F:List Fn}{T:List Tm}{k:Nat}(hk:k<T.length)(h:Gx (Ov (Oh (Og S))) num F (Oq F) (T.take k) T[k]=true)(hn:Im (T.take k) T[k]=none):addP S num F T k=true:=by
 unfold addP;rw[Jf hk];simp only;rw[h,hn];rfl
def YT (S:List (List UInt8))(num:Tm->Bool)(F:List Fn)(T:List Tm)(w:World)(e:Ending)(w':World):Prop:=
 (Gb S num F T=false/\e=.returned (.tuple #[.pointer none,.bool false])/\Up w w') ∨
 (Gb S num F T=true/\∃ kb sb fb tb gb n vS vF vT bF,e=.returned (.tuple #[.pointer (some ⟨kb,0,none⟩),.bool true])/\n<=200000/\Book w kb sb fb tb gb n S.length F.length T.length S F T vS vF vT bF w')
theorem Sa (ps pf pt:Option Addr)(cs cf ct:Nat)(S:List (List UInt8))(num:Tm->Bool)(F:List Fn)(T:List Tm)(w:World)(hS:O8 w (.slice ps S.length cs) S)(hF:Ex w (.slice pf F.length cf) F)(hT:Kb w (.slice pt T.length ct) T)
 (h1:T.length<=3000) (h2:S.length+F.length<=300) (hE:EV w) (hR:RT w) (hzS:∀ s∈S,s.length<=1048576) (hzF:∀ f∈F,f.name.length<=1048576/\(∀ a∈f.args,a.length<=1048576)/\f.sort.length<=1048576) (hzT:∀ t∈T,t.sort.length<=1048576/\t.text.length<=1048576/\t.kids.length<=1048576/\(Lit.int .i64 t.op).wf=true/\(Lit.int .i64 t.a).wf=true/\(Lit.int .i64 t.b).wf=true)
 (hnum:∀ t∈T,t.op=12->((Ov (Oh (Og S)) t.sort).kind=2∨(Ov (Oh (Og S)) t.sort).kind=3)->∀ W,Up w W->Calls prog 118 #[.string (Oo t.sort),.string (Oo t.text)] W fun e w'=>e=.returned (.bool (num t))/\Up W w') :
 Calls prog 46 #[.agg #[.slice ps S.length cs,.slice pf F.length cf,.slice pt T.length ct]] w (YT S num F T w):=by
 have y1:(T.length:Int)<=3000:=by omega
 have y2:(S.length:Int)+(F.length:Int)<=300:=by omega
 have HS:=Hd hS;have HF:=Hd hF;have HT:=Hd hT;have HE:=Hd hE;have HR:=Hd hR;have j8:=Hd hzS;have l8:=Hd hzF;have h8:=Hd hzT;have k1:=Hd hnum;clear hS hF hT hE hR hzS hzF hzT hnum
 go_enter func46,ntmps46
 go_wp2_with fail
 generalize e9:w.alloc (.cells #[.slice ps S.length cs,.slice pf F.length cf,.slice pt T.length ct] 32)=W1;have j3:Bx W1 w.heap.size [.slice ps S.length cs,.slice pf F.length cf,.slice pt T.length ct]:=by rw[<-e9];exact Ox w _ _
 have b5:=Hd j3;have O:Hid (Up w W1):=by unfold Hid;rw[<-e9];exact Oy _ _
 clear j3 e9
 go_cut [4] (fun s4 wx=>∃ kb sb fb tb gb,s4=.pointer (some ⟨kb,0,none⟩)/\Made W1 kb sb fb tb gb wx)
 case first=>
  have n7:=DH;have o9:=PG;have o3:=@run_makeMap prog;have j9:Hid (∀ W,Up W1 W->W.cell? ⟨w.heap.size,0,none⟩=some (.slice ps S.length cs)/\W.cell? ⟨w.heap.size,1,none⟩=some (.slice pf F.length cf)/\W.cell? ⟨w.heap.size,2,none⟩=some (.slice pt T.length ct)):=fun W h=>(b5.o.below b5.o.lt h).c3
  go_region_held3 (fun W=>W.cell? ⟨w.heap.size,0,none⟩=some (.slice ps S.length cs)/\W.cell? ⟨w.heap.size,1,none⟩=some (.slice pf F.length cf)/\W.cell? ⟨w.heap.size,2,none⟩=some (.slice pt T.length ct)) (exact j9.o _ (by repeat (first|exact Jh _ _|apply Below.drew|apply Ho))) (fail)
  all_goals (go_wp2_with fail;go_meet;exact⟨_,_,_,_,_,rfl,PQ W1 _ _ _ _ (by omega) (by omega) (by omega) (by omega) (by omega)⟩)
 case rest=>
  obtain⟨kb,sb,fb,tb,gb,rfl,hm⟩:=hcut;have HM:=Hd hm;clear hm;obtain⟨b0,b1,b2⟩:=(b5.o.below b5.o.lt HM.o.low).c3;have r2:=HM.o.box.frozen 2;have k2:=HM.o.box.cell 2;simp only[Jo,Jr] at k2;obtain⟨i0,e3,j0,h6,i6⟩:=Dz
  go_wp2_with (at_make;refine wpList_make_own _ rfl _ _ 30 rfl (kb+1) 57 i0 _ 6 underlying30 e3 j0 h6 .i64 .i64 _ (T.length+1) rfl rfl ?m1 ?m2 ?m3 ?m4 ?_)
  case m1=>omega
  case m2=>rw[i6];omega
  case m3=>unfold maxLen;omega
  case m4=>exact HM.o.box.lt
  intro w2 c8 c6;have g9:=HM.o.begin c6 c8;have e8:Bx w2 kb [.slice none 0 0,.slice none 0 0,.slice none 0 0,.map (some sb),.map (some fb),.map (some tb),.map (some gb)]:=by
   have A:=HM.o.box.lt;obtain⟨ty,hh⟩:=HM.o.box;exact⟨ty,(c6.block kb A (fun e=>by cases e)).trans hh⟩
  have q2:=e8.cell 2;have f2:=e8.frozen 2;simp only[Jo,Jr] at q2;have d0:=Hd g9;have o1:=Hd HM.o.low.size;clear b0 b1 b2 r2 k2 c8 c6 e8 g9;have g1:Hid (∀ W,Up W1 W->W.cell? ⟨w.heap.size,0,none⟩=some (.slice ps S.length cs)/\W.cell? ⟨w.heap.size,1,none⟩=some (.slice pf F.length cf)/\W.cell? ⟨w.heap.size,2,none⟩=some (.slice pt T.length ct)):=fun W h=>(b5.o.below b5.o.lt h).c3;obtain⟨b0,b1,b2⟩:=g1.o _ d0.o.low
  go_wp2_with fail
  clear b0 b1 b2;generalize l9:Value.slice (some ⟨wc.heap.size,0,none⟩) 0 (T.length+1)=vT at d0 ⊢;generalize m5:w2.setCell ⟨kb,2,none⟩ vT=W3 at d0 ⊢;clear l9 m5 q2 f2 i0 e3 j0 h6 i6;have i7:=Hd (HE.o.keep (Below.keep O.o));have i8:=Hd (HR.o.keep (Below.keep O.o))
  go_loopw [59] (fun i wr=>∃ k:Nat,k<=S.length/\i=.int .i64 (k:Nat)/\(∀ j (h:j<S.length),j<k->Nh (Og (S.take j)) (Oq []) S[j]=false)/\∃ vS,BookS W1 kb sb fb tb gb k (S.take k) vS vT wr) (fun i _=>S.length - (intOf i).toNat)
  case atStart=>exact⟨0,Jy _,rfl,fun j _ h=>absurd h (J1 _),_,d0.o⟩
  case round=>
   obtain⟨k,hk,rfl,hp,vS,d⟩:=hrel;have HP:=Hd hp;have E:=Hd d;have I:Hid (Up w wr):=O.o.trans (d.low.mono O.o.size);clear hp d d0
   by_cases A:k<S.length
   ·obtain⟨p2,o5,e1,l1,l2,h3⟩:=HS.o.below I.o
    cases e1
    rcases h3 with e0|⟨b,rfl,hb,Y⟩
    ·rw[e0] at A;cases A
    have hc:=Y k A;clear Y;unfold maxLen at l2;have i1:(k:Int)<(S.length:Int):=by omega
    have h9:(Oo S[k]).size<=1048576:=by show S[k].toArray.size<=_;simpa using j8.o _ (Jw A)
    have j1:=Hd (E.o.fm.to (by omega));have V:Hid ((S.take k).length=k):=by unfold Hid;rw[J3];omega
    cases M:Nh (Og (S.take k)) (Oq []) S[k]
    ·have U:=Hd (YL (kb+1) kb sb fb k (S.take k) (Oq []) vS vT (.map (some tb)) (.map (some gb)) none 0 0 (Oo S[k]) wr E.o.box E.o.sr E.o.sm (by omega) j1.o h9 E.o.box.lt (fun e=>by have:=Ot E.o.sr _ e;omega) (by rw[Ou];exact M) (by rw[V.o];omega));have b9:=Hd M;clear M
     go_wp2_with fail
     refine U.o.mono ?_;rintro e w4 ⟨rfl,ha⟩;rw[Ou] at ha;obtain⟨l5,Z⟩:=E.o.add ha;have d1:=Hd Z;clear ha Z U
     go_wp2_with fail
     go_round
     case rel=>
      refine⟨k+1,by omega,by go_num,fun j hj h2=>?_,l5,?_⟩
      ·rcases J0.1 h2 with h|rfl
       ·exact HP.o j hj h
       ·exact b9.o
      ·have:=d1.o;rw[List.take_append_getElem A] at this;exact this
     case measure=>simp[intOf];omega
    ·have G:=Hd (A6 kb sb fb (Og (S.take k)) (Oq []) (Oo S[k]) wr E.o.box.c7.2.2.2.1 E.o.box.c7.2.2.2.2.1 (E.o.sm.to (by omega)) j1.o h9 (by rw[Ou];exact M));have HG:=Hd (Wp (num:=num) (F:=F) (T:=T) A M);clear M
     go_wp2_with fail
     refine G.o.mono ?_;rintro e w4 ⟨rfl,rfl⟩;clear G
     go_wp2_with fail
     refine Jj (v:=.tuple #[.pointer none,.bool false]) ?_ rfl (.inl ⟨HG.o,rfl,I.o⟩);simp[results,results46,go_sem]
   ·have z:decide ((k:Int)<(S.length:Int))=false:=dF (by omega)
    obtain rfl:k=S.length:=by omega
    obtain⟨b0,b1,b2⟩:=g1.o _ E.o.low
    go_wp2_with fail
    clear b0 b1 b2;have d:=E.o.all;rw[Yl] at d;have d3:=Hd d;clear d E;generalize l4:wr.heap.size=bF at d3;clear l4;obtain⟨p0,c0,rfl⟩:=Eg d3.o.sr;have j6:=Hd HP.o;clear HP I hk A z;rename_i wr1
    go_loopw [75] (fun i wr=>∃ k:Nat,k<=F.length/\i=.int .i64 (k:Nat)/\(∀ j (h:j<F.length),j<k->Nh (Og S) (Oq (F.take j)) F[j].name=false/\Kj (Oh (Og S)) F[j]=true)/\∃ n vF,n<=6*k/\Book W1 kb sb fb tb gb n S.length k 0 S (F.take k) [] (.slice p0 S.length c0) vF vT bF wr) (fun i _=>F.length - (intOf i).toNat)
    case atStart=>exact⟨0,Jy _,rfl,fun j _ h=>absurd h (J1 _),0,_,Of,d3.o⟩
    case round=>
     obtain⟨k,hk,rfl,hp,n,vF,hn,d⟩:=hrel;have HP:=Hd hp;have E:=Hd d;have I:Hid (Up w wr):=O.o.trans (d.low.mono O.o.size);clear hp d d3
     by_cases A:k<F.length
     ·obtain⟨p3,o2,e1,l1,l2,h3⟩:=HF.o.below I.o
      cases e1
      rcases h3 with e0|⟨b,rfl,hb,Y⟩
      ·rw[e0] at A;cases A
      obtain⟨c0,⟨va,c1,b7⟩,c2⟩:=Y k A;have f8:=Hd b7;obtain⟨pa,ca,rfl,-,-,-⟩:=b7;clear Y;unfold maxLen at l2;have i1:(k:Int)<(F.length:Int):=by omega
      have d7:Hid (F[k]∈F):=Jw A;obtain⟨zn,za,zs⟩:=l8.o _ d7.o;have J:=Hd (E.o.next (Oy wr (.cells #[.string (Oo F[k].name),.slice pa F[k].args.length ca,.string (Oo F[k].sort)] 47)));have b4:=Hd (f8.o.below (Oy wr (.cells #[.string (Oo F[k].name),.slice pa F[k].args.length ca,.string (Oo F[k].sort)] 47)));obtain⟨g0,d⟩:=J.o.bk (by omega) (by omega) i7.o i8.o;have a7:=Hd d;have V:Hid ((F.take k).length=k):=by unfold Hid;rw[J3];omega
      clear d
      cases M:Nh (Og S) (Oq (F.take k)) F[k].name
      ·cases a8:Kj (Oh (Og S)) F[k]
       ·have G:=Hd (A2 a7.o F[k] _ b4.o zn za zs (by omega) M a8);have HG:=Hd (NU (num:=num) (T:=T) A a8);clear M a8
        go_wp2_with fail
        refine G.o.mono ?_;rintro e w4 ⟨rfl,n4,g4,-,-,K⟩;have b3:Hid (Up w w4):=(I.o.trans ((Oy wr _).mono I.o.size)).trans (Bar.below K (by have:=E.o.ids;have:=O.o.size;omega) (I.o.trans ((Oy wr _).mono I.o.size)).size);clear G K
        go_wp2_with fail
        refine Jj (v:=.tuple #[.pointer none,.bool false]) ?_ rfl (.inl ⟨HG.o,rfl,b3.o⟩);simp[results,results46,go_sem]
       ·obtain⟨X,hX,hr,hA⟩:=J.o.fr;have HX:=Hd hX;have e7:=Hd hr;have f5:=Hd hA;have U:=Hd (NO a7.o bF k (X.flatMap Bc) hr (fun e=>by have:=Ot hr _ e;have:=J.o.far;omega) J.o.fm (by omega) J.o.far.2.1 F[k] _ b4.o (UT a8) zn za zs (by omega) M a8 (by rw[V.o];omega));have b9:=Hd M;have k9:=Hd a8;clear M a8 hX hr hA
        go_wp2_with fail
        refine U.o.mono ?_;rintro e w4 ⟨rfl,ha⟩;obtain⟨j7,n',l3,Z⟩:=J.o.addF HX.o e7.o f5.o ha;have d1:=Hd Z;clear ha Z U
        go_wp2_with fail
        go_round
        case rel=>
         refine⟨k+1,by omega,by go_num,fun j hj h2=>?_,n',j7,by omega,?_⟩
         ·rcases J0.1 h2 with h|rfl
          ·exact HP.o j hj h
          ·exact⟨b9.o,k9.o⟩
         ·have:=d1.o;rw[List.take_append_getElem A] at this;exact this
        case measure=>simp[intOf];omega
      ·have G:=Hd (Sn a7.o F[k] (.slice pa F[k].args.length ca) zn M);have HG:=Hd (YF (num:=num) (T:=T) A M);clear M
       go_wp2_with fail
       refine G.o.mono ?_;rintro e w4 ⟨rfl,g6⟩;have b3:Hid (Up w w4):=I.o.trans (((Oy wr _).trans (g6.mono (Oy wr _).size)).mono I.o.size);clear G g6
       go_wp2_with fail
       refine Jj (v:=.tuple #[.pointer none,.bool false]) ?_ rfl (.inl ⟨HG.o,rfl,b3.o⟩);simp[results,results46,go_sem]
     ·have z:decide ((k:Int)<(F.length:Int))=false:=dF (by omega)
      obtain rfl:k=F.length:=by omega
      obtain⟨b0,b1,b2⟩:=g1.o _ E.o.low
      go_wp2_with fail
      clear b0 b1 b2;have d:=E.o;rw[Yl] at d;have d5:=Hd d;clear d E;have k8:=Hd HP.o;clear HP I hk A z
      go_loopw [91] (fun i wr=>∃ k:Nat,k<=T.length/\i=.int .i64 (k:Nat)/\(∀ j,j<T.length->j<k->addP S num F T j=true)/\∃ n vT,n<=1800+60*k/\Book W1 kb sb fb tb gb n S.length F.length k S F (T.take k) (.slice p0 S.length c0) vF vT bF wr) (fun i _=>T.length - (intOf i).toNat)
      case atStart=>exact⟨0,Jy _,rfl,fun j _ h=>absurd h (J1 _),n,_,by omega,d5.o⟩
      case round=>
       clear d5;obtain⟨k,hk,rfl,hp,m,vU,hm,d⟩:=hrel;have HP:=Hd hp;have E:=Hd d;have I:Hid (Up w wr):=O.o.trans (d.low.mono O.o.size);clear hp d
       by_cases A:k<T.length
       ·obtain⟨p5,n6,e1,l1,l2,h3⟩:=HT.o.below I.o
        cases e1
        rcases h3 with e0|⟨b,rfl,hb,Y⟩
        ·rw[e0] at A;cases A
        obtain⟨p4,c1,c2,c3,c4,va,c5,b7⟩:=Y k A;have f8:=Hd b7;obtain⟨pa,ca,rfl,-,-,-⟩:=b7;clear Y;unfold maxLen at l2;have i1:(k:Int)<(T.length:Int):=by omega
        have d7:Hid (T[k]∈T):=Jw A;obtain⟨zs,zx,zk,l6,k0,j5⟩:=h8.o _ d7.o;have J:=Hd (E.o.next (Oy wr (.cells #[.int .i64 T[k].op,.string (Oo T[k].sort),.string (Oo T[k].text),.int .i64 T[k].a,.int .i64 T[k].b,.slice pa T[k].kids.length ca] 57)));have b4:=Hd (f8.o.below (Oy wr (.cells #[.int .i64 T[k].op,.string (Oo T[k].sort),.string (Oo T[k].text),.int .i64 T[k].a,.int .i64 T[k].b,.slice pa T[k].kids.length ca] 57)));have b6:Hid (Up w (wr.alloc (.cells #[.int .i64 T[k].op,.string (Oo T[k].sort),.string (Oo T[k].text),.int .i64 T[k].a,.int .i64 T[k].b,.slice pa T[k].kids.length ca] 57))):=I.o.trans ((Oy wr _).mono I.o.size);have f9:Hid (w.heap.size<=gb):=by have:=E.o.ids;have:=O.o.size;unfold Hid;omega
        obtain⟨g0,d⟩:=J.o.bk (by omega) (by omega) i7.o i8.o;have a7:=Hd d;have V:Hid ((T.take k).length=k):=by unfold Hid;rw[J3];omega
        have g2:Hid (∀ u∈T.take k,u.sort.length<=1048576):=fun u hu=>(h8.o u (Yw hu)).1;have e5:Hid (T[k].op=12->((Ov (Oh (Og S)) T[k].sort).kind=2∨(Ov (Oh (Og S)) T[k].sort).kind=3)->∀ W,Bar gb (wr.alloc (.cells #[.int .i64 T[k].op,.string (Oo T[k].sort),.string (Oo T[k].text),.int .i64 T[k].a,.int .i64 T[k].b,.slice pa T[k].kids.length ca] 57)) W->Calls prog 118 #[.string (Oo T[k].sort),.string (Oo T[k].text)] W fun e w'=>e=.returned (.bool (num T[k]))/\Up W w'):=fun h12 hk W hW=>k1.o _ d7.o h12 hk W (b6.o.trans (Bar.below hW f9.o b6.o.size));clear d
        go_wp2_with fail
        cases M:Gx (Ov (Oh (Og S))) num F (Oq F) (T.take k) T[k]
        ·have G:=Hd (Tw a7.o T[k] _ b4.o num (by rw[V.o];omega) zk (by omega) g2.o zs zx (by omega) e5.o M);have HG:=Hd (Cm (S:=S) (num:=num) (F:=F) A (XZ A M));clear M;unfold Ie at G;refine G.o.mono ?_;rintro e w4 ⟨rfl,n4,g4,-,-,K⟩;have b3:Hid (Up w w4):=b6.o.trans (Bar.below K f9.o b6.o.size);clear G K
         go_wp2_with fail
         refine Jj (v:=.tuple #[.pointer none,.bool false]) ?_ rfl (.inl ⟨HG.o,rfl,b3.o⟩);simp[results,results46,go_sem]
        ·have g7:=Hd (QP M (by rw[V.o];omega) l6 k0 j5 zs zx)
         cases hj:Im (T.take k) T[k] with
         | some j=>
           have G:=Hd (Li a7.o J.o.tm J.o.ne.2.2.2.2.2 T[k] _ b4.o num (by rw[V.o];omega) (by omega) g2.o (by omega) g7.o e5.o M j hj);have e6:=VI (S:=S) (num:=num) (F:=F) A hj;have HG:=Hd (Cm (S:=S) (num:=num) (F:=F) A e6.1);have z1:(j:Int)≠(k:Int):=by have:=e6.2;omega
           clear M hj e6;unfold Ie at G;refine G.o.mono ?_;rintro e w4 ⟨rfl,K⟩;have b3:Hid (Up w w4):=b6.o.trans (Bar.below K f9.o b6.o.size);have z2:=Eo z1;clear G K
           go_wp2_with fail
           refine Jj (v:=.tuple #[.pointer none,.bool false]) ?_ rfl (.inl ⟨HG.o,rfl,b3.o⟩);simp[results,results46,go_sem]
         | none=>
           obtain⟨X,hX,hr,hA⟩:=J.o.tr;have HX:=Hd hX;have e7:=Hd hr;have f5:=Hd hA;have U:=Hd (S0 a7.o J.o.tm (by omega) J.o.ne.2.2.2.2.2 (kb+1) (X.flatMap R1) hr (fun e=>by have:=Ot hr _ e;omega) J.o.box.lt T[k] _ b4.o num (by rw[V.o];omega) (by omega) g2.o (by omega) g7.o e5.o M hj);rw[V.o] at U;have b9:=Hd (XR A M hj);clear M hj hX hr hA;unfold Ie at U;refine U.o.mono ?_;rintro e w4 ⟨rfl,ha⟩;obtain⟨k7,n',l3,Z⟩:=J.o.addT HX.o e7.o f5.o ha;have d1:=Hd Z;clear ha Z U
           go_wp2_with fail
           go_round
           case rel=>
            refine⟨k+1,by omega,by go_num,fun j hj h2=>?_,n',k7,by omega,?_⟩
            ·rcases J0.1 h2 with h|rfl
             ·exact HP.o j hj h
             ·exact b9.o
            ·have:=d1.o;rw[List.take_append_getElem A] at this;exact this
           case measure=>simp[intOf];omega
       ·have z:decide ((k:Int)<(T.length:Int))=false:=dF (by omega)
        obtain rfl:k=T.length:=by omega
        have HG:Hid (Gb S num F T=true):=NR h1 h2 (fun j hj=>j6.o j hj hj) (fun j hj=>k8.o j hj hj) (fun j hj=>HP.o j hj hj);have d:=E.o.lower O.o;rw[Yl] at d;have d5:=Hd d;clear d E
        go_wp2_with fail
        refine Jj (v:=.tuple #[.pointer (some ⟨kb,0,none⟩),.bool true]) ?_ rfl (.inr ⟨HG.o,kb,sb,fb,tb,gb,m,_,_,_,bF,rfl,by omega,d5.o⟩);simp[results,results46,go_sem]
theorem Ah (ps pf pt:Option Addr)(cs cf ct:Nat)(S:List (List UInt8))(num:Tm->Bool)(F:List Fn)(T:List Tm)(w:World)(hS:O8 w (.slice ps S.length cs) S)(hF:Ex w (.slice pf F.length cf) F)(hT:Kb w (.slice pt T.length ct) T)
 (hlS:S.length<=1048576) (hlF:F.length<=1048576) (hE:EV w) (hR:RT w) (hzS:∀ s∈S,s.length<=1048576) (hzF:∀ f∈F,f.name.length<=1048576/\(∀ a∈f.args,a.length<=1048576)/\f.sort.length<=1048576) (hzT:∀ t∈T,t.sort.length<=1048576/\t.text.length<=1048576/\t.kids.length<=1048576/\(Lit.int .i64 t.op).wf=true/\(Lit.int .i64 t.a).wf=true/\(Lit.int .i64 t.b).wf=true)
 (hnum:∀ t∈T,t.op=12->((Ov (Oh (Og S)) t.sort).kind=2∨(Ov (Oh (Og S)) t.sort).kind=3)->∀ W,Up w W->Calls prog 118 #[.string (Oo t.sort),.string (Oo t.text)] W fun e w'=>e=.returned (.bool (num t))/\Up W w') :
 Calls prog 46 #[.agg #[.slice ps S.length cs,.slice pf F.length cf,.slice pt T.length ct]] w (YT S num F T w):=by
 by_cases h:T.length<=3000/\S.length+F.length<=300
 ·exact Sa ps pf pt cs cf ct S num F T w hS hF hT h.1 h.2 hE hR hzS hzF hzT hnum
 have I:Hid (Gb S num F T=false):=by
  unfold Hid Gb
  by_cases j:T.length<=3000
  ·rw[Jg (p:=S.length+F.length<=300) (by omega)];simp
  rw[Jg j];rfl
 obtain⟨p1,V,O,l1,G,-⟩:=hS;obtain⟨U,d2,J,Z,E,-⟩:=hF;obtain⟨p3,Y,K,l5,M,-⟩:=hT
 cases O;cases J;cases K
 unfold maxLen at G E M;have d:Hid (Up w (w.alloc (.cells #[.slice ps S.length cs,.slice pf F.length cf,.slice pt T.length ct] 32))):=Oy _ _;have y:¬ ((T.length:Int)<=3000/\(S.length:Int)+(F.length:Int)<=300):=by omega
 clear hE hR hzS hzF hzT hnum h
 by_cases j:S.length+F.length<=300
 case' pos=>
  have A:decide ((300:Int)<(S.length:Int)+(F.length:Int))=false:=dF (by omega)
  have y2:decide ((3000:Int)<(T.length:Int))=true:=dT (by omega)
 case' neg=>
  have A:decide ((300:Int)<(S.length:Int)+(F.length:Int))=true:=dT (by omega)
 all_goals
  have y3:(S.length:Int)+(F.length:Int)<=2097152:=by omega
  clear y
  go_enter func46,ntmps46
  go_wp2_with fail
  refine Jj (v:=.tuple #[.pointer none,.bool false]) ?_ rfl (.inl ⟨I.o,rfl,d.o⟩);simp[results,results46,go_sem]
end Go.Proofs.YtipgjenolpofpaaGreatDoor
