import Derived.Test.YtfkagjelljnpdaaGreatDoorP24
set_option linter.all false
set_option maxRecDepth 100000
set_option maxHeartbeats 8000000
namespace Go.Proofs.YtfkagjelljnpdaaGreatDoor
open ChangeShapes WideShapes ChangeAt RowKit Proofs.Tryz
variable {F:List Fn}{S:List (List UInt8)}{T:List Tm}{k:Nat}
theorem Book.lower{w W1:World}{kb sb fb tb gb n nS nF nT:Nat}{vS vF vT:Value}{bF:Nat}{W:World}(h:Book W1 kb sb fb tb gb n nS nF nT S F T vS vF vT bF W)(hb:Up w W1):Book w kb sb fb tb gb n nS nF nT S F T vS vF vT bF W:=by
 have j:=hb.size;have q:=h.ids;exact⟨hb.trans (h.low.mono j),by omega,h.ne,h.box,h.sr,h.fr,h.tr,h.far,h.sm,h.fm,h.tm,h.km⟩
theorem Book.next{w0:World}{kb sb fb tb gb n nS nF nT:Nat}{vS vF vT:Value}{bF:Nat}{W W':World}(h:Book w0 kb sb fb tb gb n nS nF nT S F T vS vF vT bF W)(hb:Up W W'):Book w0 kb sb fb tb gb n nS nF nT S F T vS vF vT bF W':=by
 obtain⟨g,j,q⟩:=h.km;refine⟨h.low.trans (hb.mono h.low.size),h.ids,h.ne,h.box.bl h.box.lt hb,own_other' h.sr (fun g hg=>hb.block g (h.sr.lt g hg).2),h.fr.keep (fun g cs fz hg _=>?_),h.tr.keep (fun g cs fz hg _=>?_),⟨h.far.1,Jm h.far.2.1 hb.size,h.far.2.2⟩,h.sm.low hb h.sm.lt,h.fm.low hb h.fm.lt,h.tm.low hb h.tm.lt,g,j.low hb j.lt,q⟩
 ·rcases hg with hg|hg<;>exact hb.block g (Jo.1 hg).1
 rcases hg with hg|hg<;>exact hb.block g (Jo.1 hg).1
theorem EE{own:List UInt8->Bool}{f:Fn}(h:Ub own f=true):f.args.length<=5:=by
 unfold Ub at h;simp only[Jw,J1]at h;exact h.1.1.1
theorem IB{num:Tm->Bool}(hk:k<T.length)(h:Nm (Ou (Oh (Og S))) num F (Ox F) (T.take k) T[k]=false):addP S num F T k=false:=by
 unfold addP;rw[Jg hk];simp only;rw[h];rfl
theorem Wj{num:Tm->Bool}{j:Nat}(hk:k<T.length)(h:Kd (T.take k) T[k]=some j):addP S num F T k=false/\j<k:=by
 refine⟨?_,?_⟩
 ·unfold addP;rw[Jg hk];simp only;rw[h];simp
 unfold Kd at h;obtain⟨q,-⟩:=J9.1 h;rw[J7]at q;omega
theorem IA{num:Tm->Bool}(hk:k<T.length)(h:Nm (Ou (Oh (Og S))) num F (Ox F) (T.take k) T[k]=true)(hn:Kd (T.take k) T[k]=none):addP S num F T k=true:=by
 unfold addP;rw[Jg hk];simp only;rw[h,hn];rfl
def Wt(S:List (List UInt8))(num:Tm->Bool)(F:List Fn)(T:List Tm)(w:World)(e:Ending)(w':World):Prop:=
 (N4 S num F T=false/\e=.returned (.tuple #[.pointer none,.bool false])/\Up w w') ∨
 (N4 S num F T=true/\∃kb sb fb tb gb n vS vF vT bF,e=.returned (.tuple #[.pointer (some ⟨kb,0,none⟩),.bool true])/\n<=200000/\Book w kb sb fb tb gb n S.length F.length T.length S F T vS vF vT bF w')
theorem Tl(ps pf pt:Option Addr)(cs cf ct:Nat)(S:List (List UInt8))(num:Tm->Bool)(F:List Fn)(T:List Tm)(w:World)(hS:O4 w (.slice ps S.length cs) S)(hF:Em w (.slice pf F.length cf) F)(hT:TermsAt w (.slice pt T.length ct) T)
 (h1:T.length<=3000) (h2:S.length+F.length<=300) (hE:EV w) (hR:RT w) (hzS:∀s∈S,s.length<=1048576) (hzF:∀f∈F,f.name.length<=1048576/\(∀a∈f.args,a.length<=1048576)/\f.sort.length<=1048576) (hzT:∀t∈T,t.sort.length<=1048576/\t.text.length<=1048576/\t.kids.length<=1048576/\(Lit.int .i64 t.op).wf=true/\(Lit.int .i64 t.a).wf=true/\(Lit.int .i64 t.b).wf=true)
 (hnum:∀t∈T,t.op=12->((Ou (Oh (Og S)) t.sort).kind=2∨(Ou (Oh (Og S)) t.sort).kind=3)->∀W,Up w W->Calls prog 141 #[.string (Oo t.sort),.string (Oo t.text)] W fun e w'=>e=.returned (.bool (num t))/\Up W w') :
 Calls prog 56 #[.agg #[.slice ps S.length cs,.slice pf F.length cf,.slice pt T.length ct]] w (Wt S num F T w):=by
 have y1:(T.length:Int)<=3000:=by omega
 have y2:(S.length:Int)+(F.length:Int)<=300:=by omega
 have HS:=Hd hS;have HF:=Hd hF;have HT:=Hd hT;have HE:=Hd hE;have HR:=Hd hR;have k7:=Hd hzS;have k1:=Hd hzF;have g9:=Hd hzT;have j6:=Hd hnum;clear hS hF hT hE hR hzS hzF hzT hnum
 go_in
 go_wp2_with fail
 generalize g1:w.alloc (.cells #[.slice ps S.length cs,.slice pf F.length cf,.slice pt T.length ct] 27)=W1;have i8:Bx W1 w.heap.size [.slice ps S.length cs,.slice pf F.length cf,.slice pt T.length ct]:=by rw[<-g1];exact Oq w _ _
 have b8:=Hd i8;have Y:Hid (Up w W1):=by unfold Hid;rw[<-g1];exact Oy _ _
 clear i8 g1
 go_cut [4] (fun s4 wx=>∃kb sb fb tb gb,s4=.pointer (some ⟨kb,0,none⟩)/\Made W1 kb sb fb tb gb wx)
 case first=>
  have o6:=DP;have o7:=DD;have o8:=@run_makeMap prog;have j5:Hid (∀W,Up W1 W->W.cell? ⟨w.heap.size,0,none⟩=some (.slice ps S.length cs)/\W.cell? ⟨w.heap.size,1,none⟩=some (.slice pf F.length cf)/\W.cell? ⟨w.heap.size,2,none⟩=some (.slice pt T.length ct)):=fun W h=>(b8.o.bl b8.o.lt h).c3
  go_region_held3 (fun W=>W.cell? ⟨w.heap.size,0,none⟩=some (.slice ps S.length cs)/\W.cell? ⟨w.heap.size,1,none⟩=some (.slice pf F.length cf)/\W.cell? ⟨w.heap.size,2,none⟩=some (.slice pt T.length ct)) (exact j5.o _ (by repeat (first|exact Ji _ _|apply Below.drew|apply Eu))) (fail)
  all_goals (go_wp2;go_meet;exact⟨_,_,_,_,_,rfl,DR W1 _ _ _ _ (by omega) (by omega) (by omega) (by omega) (by omega)⟩)
 obtain⟨kb,sb,fb,tb,gb,rfl,hm⟩:=hcut;have HM:=Hd hm;clear hm;obtain⟨b0,b1,b2⟩:=(b8.o.bl b8.o.lt HM.o.low).c3;have r2:=HM.o.box.fz 2;have k2:=HM.o.box.cell 2;simp only[Jr,Jy]at k2;obtain⟨i0,e3,j0,j1,j2⟩:=X8
 go_wp2_with (at_make;refine wpList_make_own _ rfl _ _ 25 rfl (kb+1) 38 i0 _ 6 underlying25 e3 j0 j1 .i64 .i64 _ (T.length+1) rfl rfl ?m1 ?m2 ?m3 ?m4 ?_)
 case m1=>omega
 case m2=>rw[j2];omega
 case m3=>unfold maxLen;omega
 case m4=>exact HM.o.box.lt
 intro w2 d2 d1;have i6:=HM.o.begin d1 d2;have g3:Bx w2 kb [.slice none 0 0,.slice none 0 0,.slice none 0 0,.map (some sb),.map (some fb),.map (some tb),.map (some gb)]:=by
  have E:=HM.o.box.lt;obtain⟨ty,hh⟩:=HM.o.box;exact⟨ty,(d1.block kb E (fun e=>by cases e)).trans hh⟩
 have q2:=g3.cell 2;have f2:=g3.fz 2;simp only[Jr,Jy]at q2;have c6:=Hd i6;have n8:=Hd HM.o.low.size;clear b0 b1 b2 r2 k2 d2 d1 g3 i6;have e6:Hid (∀W,Up W1 W->W.cell? ⟨w.heap.size,0,none⟩=some (.slice ps S.length cs)/\W.cell? ⟨w.heap.size,1,none⟩=some (.slice pf F.length cf)/\W.cell? ⟨w.heap.size,2,none⟩=some (.slice pt T.length ct)):=fun W h=>(b8.o.bl b8.o.lt h).c3;obtain⟨b0,b1,b2⟩:=e6.o _ c6.o.low
 go_wp2_with fail
 clear b0 b1 b2;generalize l3:Value.slice (some ⟨wc.heap.size,0,none⟩) 0 (T.length+1)=vT at c6 ⊢;generalize k8:w2.setCell ⟨kb,2,none⟩ vT=W3 at c6 ⊢;clear l3 k8 q2 f2 i0 e3 j0 j1 j2;have g5:=Hd (HE.o.keep (Below.keep Y.o));have g7:=Hd (HR.o.keep (Below.keep Y.o))
 go_loopw [59] (fun i wr=>∃k:Nat,k<=S.length/\i=.int .i64 (k:Nat)/\(∀j (h:j<S.length),j<k->Eb (Og (S.take j)) (Ox []) S[j]=false)/\∃vS,BookS W1 kb sb fb tb gb k (S.take k) vS vT wr) (fun i _=>S.length - (intOf i).toNat)
 case atStart=>exact⟨0,Jp _,rfl,fun j _ h=>absurd h (Jz _),_,c6.o⟩
 obtain⟨k,hk,rfl,hp,vS,q⟩:=hrel;have HP:=Hd hp;have G:=Hd q;have J:Hid (Up w wr):=Y.o.trans (q.low.mono Y.o.size);clear hp q c6
 by_cases E:k<S.length
 ·obtain⟨p2,o2,e1,l1,l2,h3⟩:=HS.o.bl J.o
  cases e1
  rcases h3 with e0|⟨b,rfl,hb,a8⟩
  ·rw[e0]at E;cases E
  have hc:=a8 k E;clear a8;unfold maxLen at l2;have i1:(k:Int)<(S.length:Int):=by omega
  have i7:(Oo S[k]).size<=1048576:=by show S[k].toArray.size<=_;simpa using k7.o _ (Jj E)
  have g6:=Hd (G.o.fm.to (by omega));have a1:Hid ((S.take k).length=k):=by unfold Hid;rw[J7];omega
  cases V:Eb (Og (S.take k)) (Ox []) S[k]
  ·have Z:=Hd (OO (kb+1) kb sb fb k (S.take k) (Ox []) vS vT (.map (some tb)) (.map (some gb)) none 0 0 (Oo S[k]) wr G.o.box G.o.sr G.o.sm (by omega) g6.o i7 G.o.box.lt (fun e=>by have:=Oe G.o.sr _ e;omega) (by rw[Ov];exact V) (by rw[a1.o];omega));have c8:=Hd V;clear V
   go_wp2_with fail
   refine Z.o.mono ?_;rintro e w4 ⟨rfl,ha⟩;rw[Ov]at ha;obtain⟨l5,a7⟩:=G.o.add ha;have b9:=Hd a7;clear ha a7 Z
   go_wp2
   go_round
   case rel=>
    refine⟨k+1,by omega,by go_num,fun j hj h2=>?_,l5,?_⟩
    ·rcases J4.1 h2 with h|rfl
     ·exact HP.o j hj h
     exact c8.o
    have:=b9.o;rw[List.take_append_getElem E]at this;exact this
   simp[intOf];omega
  have K:=Hd (Aw kb sb fb (Og (S.take k)) (Ox []) (Oo S[k]) wr G.o.box.c7.2.2.2.1 G.o.box.c7.2.2.2.2.1 (G.o.sm.to (by omega)) g6.o i7 (by rw[Ov];exact V));have HG:=Hd (OA (num:=num) (F:=F) (T:=T) E V);clear V
  go_wp2_with fail
  refine K.o.mono ?_;rintro e w4 ⟨rfl,rfl⟩;clear K
  go_wp2_with fail
  refine Jl (v:=.tuple #[.pointer none,.bool false]) ?_ rfl (.inl ⟨HG.o,rfl,J.o⟩);simp[results,results56,go_sem]
 have z:decide ((k:Int)<(S.length:Int))=false:=dF (by omega)
 obtain rfl:k=S.length:=by omega
 obtain⟨b0,b1,b2⟩:=e6.o _ G.o.low
 go_wp2_with fail
 clear b0 b1 b2;have q:=G.o.all;rw[Y1]at q;have d5:=Hd q;clear q G;generalize k9:wr.heap.size=bF at d5;clear k9;obtain⟨p0,c0,rfl⟩:=V6 d5.o.sr;have j9:=Hd HP.o;clear HP J hk E z;rename_i wr1
 go_loopw [75] (fun i wr=>∃k:Nat,k<=F.length/\i=.int .i64 (k:Nat)/\(∀j (h:j<F.length),j<k->Eb (Og S) (Ox (F.take j)) F[j].name=false/\Ub (Oh (Og S)) F[j]=true)/\∃n vF,n<=6*k/\Book W1 kb sb fb tb gb n S.length k 0 S (F.take k) [] (.slice p0 S.length c0) vF vT bF wr) (fun i _=>F.length - (intOf i).toNat)
 case atStart=>exact⟨0,Jp _,rfl,fun j _ h=>absurd h (Jz _),0,_,leR,d5.o⟩
 obtain⟨k,hk,rfl,hp,n,vF,hn,q⟩:=hrel;have HP:=Hd hp;have G:=Hd q;have J:Hid (Up w wr):=Y.o.trans (q.low.mono Y.o.size);clear hp q d5
 by_cases E:k<F.length
 ·obtain⟨p1,o1,e1,l1,l2,h3⟩:=HF.o.bl J.o
  cases e1
  rcases h3 with e0|⟨b,rfl,hb,a8⟩
  ·rw[e0]at E;cases E
  obtain⟨c0,⟨va,c1,d3⟩,c2⟩:=a8 k E;have f0:=Hd d3;obtain⟨pa,ca,rfl,-,-,-⟩:=d3;clear a8;unfold maxLen at l2;have i1:(k:Int)<(F.length:Int):=by omega
  have d7:Hid (F[k]∈F):=Jj E;obtain⟨zn,za,zs⟩:=k1.o _ d7.o;have O:=Hd (G.o.next (Oy wr (.cells #[.string (Oo F[k].name),.slice pa F[k].args.length ca,.string (Oo F[k].sort)] 75)));have b7:=Hd (f0.o.bl (Oy wr (.cells #[.string (Oo F[k].name),.slice pa F[k].args.length ca,.string (Oo F[k].sort)] 75)));obtain⟨g0,q⟩:=O.o.bk (by omega) (by omega) g5.o g7.o;have b4:=Hd q;have a1:Hid ((F.take k).length=k):=by unfold Hid;rw[J7];omega
  clear q
  cases V:Eb (Og S) (Ox (F.take k)) F[k].name
  ·cases b5:Ub (Oh (Og S)) F[k]
   ·have K:=Hd (At b4.o F[k] _ b7.o zn za zs (by omega) V b5);have HG:=Hd (EN (num:=num) (T:=T) E b5);clear V b5
    go_wp2_with fail
    refine K.o.mono ?_;rintro e w4 ⟨rfl,n4,g4,-,-,R⟩;have b3:Hid (Up w w4):=(J.o.trans ((Oy wr _).mono J.o.size)).trans (Bar.bl R (by have:=G.o.ids;have:=Y.o.size;omega) (J.o.trans ((Oy wr _).mono J.o.size)).size);clear K R
    go_wp2_with fail
    refine Jl (v:=.tuple #[.pointer none,.bool false]) ?_ rfl (.inl ⟨HG.o,rfl,b3.o⟩);simp[results,results56,go_sem]
   obtain⟨X,hX,hr,hA⟩:=O.o.fr;have HX:=Hd hX;have e9:=Hd hr;have e5:=Hd hA;have Z:=Hd (KV b4.o bF k (X.flatMap funC) hr (fun e=>by have:=Oe hr _ e;have:=O.o.far;omega) O.o.fm (by omega) O.o.far.2.1 F[k] _ b7.o (EE b5) zn za zs (by omega) V b5 (by rw[a1.o];omega));have c8:=Hd V;have j7:=Hd b5;clear V b5 hX hr hA
   go_wp2_with fail
   refine Z.o.mono ?_;rintro e w4 ⟨rfl,ha⟩;obtain⟨l4,n',l0,a7⟩:=O.o.addF HX.o e9.o e5.o ha;have b9:=Hd a7;clear ha a7 Z
   go_wp2
   go_round
   case rel=>
    refine⟨k+1,by omega,by go_num,fun j hj h2=>?_,n',l4,by omega,?_⟩
    ·rcases J4.1 h2 with h|rfl
     ·exact HP.o j hj h
     exact⟨c8.o,j7.o⟩
    have:=b9.o;rw[List.take_append_getElem E]at this;exact this
   simp[intOf];omega
  have K:=Hd (As b4.o F[k] (.slice pa F[k].args.length ca) zn V);have HG:=Hd (OM (num:=num) (T:=T) E V);clear V
  go_wp2_with fail
  refine K.o.mono ?_;rintro e w4 ⟨rfl,h9⟩;have b3:Hid (Up w w4):=J.o.trans (((Oy wr _).trans (h9.mono (Oy wr _).size)).mono J.o.size);clear K h9
  go_wp2_with fail
  refine Jl (v:=.tuple #[.pointer none,.bool false]) ?_ rfl (.inl ⟨HG.o,rfl,b3.o⟩);simp[results,results56,go_sem]
 have z:decide ((k:Int)<(F.length:Int))=false:=dF (by omega)
 obtain rfl:k=F.length:=by omega
 obtain⟨b0,b1,b2⟩:=e6.o _ G.o.low
 go_wp2_with fail
 clear b0 b1 b2;have q:=G.o;rw[Y1]at q;have d6:=Hd q;clear q G;have j8:=Hd HP.o;clear HP J hk E z
 go_loopw [91] (fun i wr=>∃k:Nat,k<=T.length/\i=.int .i64 (k:Nat)/\(∀j,j<T.length->j<k->addP S num F T j=true)/\∃n vT,n<=1800+60*k/\Book W1 kb sb fb tb gb n S.length F.length k S F (T.take k) (.slice p0 S.length c0) vF vT bF wr) (fun i _=>T.length - (intOf i).toNat)
 case atStart=>exact⟨0,Jp _,rfl,fun j _ h=>absurd h (Jz _),n,_,by omega,d6.o⟩
 clear d6;obtain⟨k,hk,rfl,hp,m,vU,hm,q⟩:=hrel;have HP:=Hd hp;have G:=Hd q;have J:Hid (Up w wr):=Y.o.trans (q.low.mono Y.o.size);clear hp q
 by_cases E:k<T.length
 ·obtain⟨p3,o3,e1,l1,l2,h3⟩:=HT.o.bl J.o
  cases e1
  rcases h3 with e0|⟨b,rfl,hb,a8⟩
  ·rw[e0]at E;cases E
  obtain⟨o0,c1,c2,c3,c4,va,c5,d3⟩:=a8 k E;have f0:=Hd d3;obtain⟨pa,ca,rfl,-,-,-⟩:=d3;clear a8;unfold maxLen at l2;have i1:(k:Int)<(T.length:Int):=by omega
  have d7:Hid (T[k]∈T):=Jj E;obtain⟨zs,zx,zk,l7,l8,l9⟩:=g9.o _ d7.o;have O:=Hd (G.o.next (Oy wr (.cells #[.int .i64 T[k].op,.string (Oo T[k].sort),.string (Oo T[k].text),.int .i64 T[k].a,.int .i64 T[k].b,.slice pa T[k].kids.length ca] 38)));have b7:=Hd (f0.o.bl (Oy wr (.cells #[.int .i64 T[k].op,.string (Oo T[k].sort),.string (Oo T[k].text),.int .i64 T[k].a,.int .i64 T[k].b,.slice pa T[k].kids.length ca] 38)));have b6:Hid (Up w (wr.alloc (.cells #[.int .i64 T[k].op,.string (Oo T[k].sort),.string (Oo T[k].text),.int .i64 T[k].a,.int .i64 T[k].b,.slice pa T[k].kids.length ca] 38))):=J.o.trans ((Oy wr _).mono J.o.size);have e7:Hid (w.heap.size<=gb):=by have:=G.o.ids;have:=Y.o.size;unfold Hid;omega
  obtain⟨g0,q⟩:=O.o.bk (by omega) (by omega) g5.o g7.o;have b4:=Hd q;have a1:Hid ((T.take k).length=k):=by unfold Hid;rw[J7];omega
  have f1:Hid (∀u∈T.take k,u.sort.length<=1048576):=fun u hu=>(g9.o u (Yp hu)).1;have e8:Hid (T[k].op=12->((Ou (Oh (Og S)) T[k].sort).kind=2∨(Ou (Oh (Og S)) T[k].sort).kind=3)->∀W,Bar gb (wr.alloc (.cells #[.int .i64 T[k].op,.string (Oo T[k].sort),.string (Oo T[k].text),.int .i64 T[k].a,.int .i64 T[k].b,.slice pa T[k].kids.length ca] 38)) W->Calls prog 141 #[.string (Oo T[k].sort),.string (Oo T[k].text)] W fun e w'=>e=.returned (.bool (num T[k]))/\Up W w'):=fun h12 hk W hW=>j6.o _ d7.o h12 hk W (b6.o.trans (Bar.bl hW e7.o b6.o.size));clear q
  go_wp2_with fail
  cases V:Nm (Ou (Oh (Og S))) num F (Ox F) (T.take k) T[k]
  ·have K:=Hd (Aj b4.o T[k] _ b7.o num (by rw[a1.o];omega) zk (by omega) f1.o zs zx (by omega) e8.o V);have HG:=Hd (D8 (S:=S) (num:=num) (F:=F) E (IB E V));clear V;unfold G6 at K;refine K.o.mono ?_;rintro e w4 ⟨rfl,n4,g4,-,-,R⟩;have b3:Hid (Up w w4):=b6.o.trans (Bar.bl R e7.o b6.o.size);clear K R
   go_wp2_with fail
   refine Jl (v:=.tuple #[.pointer none,.bool false]) ?_ rfl (.inl ⟨HG.o,rfl,b3.o⟩);simp[results,results56,go_sem]
  have g8:=Hd (RM V (by rw[a1.o];omega) l7 l8 l9 zs zx)
  cases hj:Kd (T.take k) T[k]with
  | some j=>
    have K:=Hd (Lz b4.o O.o.tm O.o.ne.2.2.2.2.2 T[k] _ b7.o num (by rw[a1.o];omega) (by omega) f1.o (by omega) g8.o e8.o V j 0 (.inl ⟨j,hj,rfl,rfl⟩));have g2:=Wj (S:=S) (num:=num) (F:=F) E hj;have HG:=Hd (D8 (S:=S) (num:=num) (F:=F) E g2.1);have z1:(j:Int)≠(k:Int):=by have:=g2.2;omega
    clear V hj g2;unfold G6 at K;refine K.o.mono ?_;rintro e w4 ⟨rfl,-,-,-,-,R⟩;have b3:Hid (Up w w4):=b6.o.trans (Bar.bl R e7.o b6.o.size);have z2:=Un z1;clear K R
    go_wp2_with fail
    refine Jl (v:=.tuple #[.pointer none,.bool false]) ?_ rfl (.inl ⟨HG.o,rfl,b3.o⟩);simp[results,results56,go_sem]
  | none=>
    obtain⟨X,hX,hr,hA⟩:=O.o.tr;have HX:=Hd hX;have e9:=Hd hr;have e5:=Hd hA;have Z:=Hd (A0 b4.o O.o.tm (by omega) O.o.ne.2.2.2.2.2 (kb+1) (X.flatMap O5) hr (fun e=>by have:=Oe hr _ e;omega) O.o.box.lt T[k] _ b7.o num (by rw[a1.o];omega) (by omega) f1.o (by omega) g8.o e8.o V hj);rw[a1.o]at Z;have c8:=Hd (IA E V hj);clear V hj hX hr hA;unfold G6 at Z;refine Z.o.mono ?_;rintro e w4 ⟨rfl,ha⟩;obtain⟨l6,n',l0,a7⟩:=O.o.addT HX.o e9.o e5.o ha;have b9:=Hd a7;clear ha a7 Z
    go_wp2
    go_round
    case rel=>
     refine⟨k+1,by omega,by go_num,fun j hj h2=>?_,n',l6,by omega,?_⟩
     ·rcases J4.1 h2 with h|rfl
      ·exact HP.o j hj h
      exact c8.o
     have:=b9.o;rw[List.take_append_getElem E]at this;exact this
    simp[intOf];omega
 have z:decide ((k:Int)<(T.length:Int))=false:=dF (by omega)
 obtain rfl:k=T.length:=by omega
 have HG:Hid (N4 S num F T=true):=EG h1 h2 (fun j hj=>j9.o j hj hj) (fun j hj=>j8.o j hj hj) (fun j hj=>HP.o j hj hj);have q:=G.o.lower Y.o;rw[Y1]at q;have d6:=Hd q;clear q G
 go_wp2_with fail
 refine Jl (v:=.tuple #[.pointer (some ⟨kb,0,none⟩),.bool true]) ?_ rfl (.inr ⟨HG.o,kb,sb,fb,tb,gb,m,_,_,_,bF,rfl,by omega,d6.o⟩);simp[results,results56,go_sem]
theorem B8(ps pf pt:Option Addr)(cs cf ct:Nat)(S:List (List UInt8))(num:Tm->Bool)(F:List Fn)(T:List Tm)(w:World)(hS:O4 w (.slice ps S.length cs) S)(hF:Em w (.slice pf F.length cf) F)(hT:TermsAt w (.slice pt T.length ct) T)
 (hlS:S.length<=1048576) (hlF:F.length<=1048576) (hE:EV w) (hR:RT w) (hzS:∀s∈S,s.length<=1048576) (hzF:∀f∈F,f.name.length<=1048576/\(∀a∈f.args,a.length<=1048576)/\f.sort.length<=1048576) (hzT:∀t∈T,t.sort.length<=1048576/\t.text.length<=1048576/\t.kids.length<=1048576/\(Lit.int .i64 t.op).wf=true/\(Lit.int .i64 t.a).wf=true/\(Lit.int .i64 t.b).wf=true)
 (hnum:∀t∈T,t.op=12->((Ou (Oh (Og S)) t.sort).kind=2∨(Ou (Oh (Og S)) t.sort).kind=3)->∀W,Up w W->Calls prog 141 #[.string (Oo t.sort),.string (Oo t.text)] W fun e w'=>e=.returned (.bool (num t))/\Up W w') :
 Calls prog 56 #[.agg #[.slice ps S.length cs,.slice pf F.length cf,.slice pt T.length ct]] w (Wt S num F T w):=by
 by_cases h:T.length<=3000/\S.length+F.length<=300
 ·exact Tl ps pf pt cs cf ct S num F T w hS hF hT h.1 h.2 hE hR hzS hzF hzT hnum
 have E:Hid (N4 S num F T=false):=by
  unfold Hid N4
  by_cases q:T.length<=3000
  ·rw[Jd (p:=S.length+F.length<=300) (by omega)];simp
  rw[Jd q];rfl
 obtain⟨p1,Z,G,l1,O,-⟩:=hS;obtain⟨p2,d2,J,l3,R,-⟩:=hF;obtain⟨p3,d3,K,l5,V,-⟩:=hT
 cases G;cases J;cases K
 unfold maxLen at O R V;have j:Hid (Up w (w.alloc (.cells #[.slice ps S.length cs,.slice pf F.length cf,.slice pt T.length ct] 27))):=Oy _ _;have y:¬ ((T.length:Int)<=3000/\(S.length:Int)+(F.length:Int)<=300):=by omega
 clear hE hR hzS hzF hzT hnum h
 by_cases q:S.length+F.length<=300
 case' pos=>
  have Y:decide ((300:Int)<(S.length:Int)+(F.length:Int))=false:=dF (by omega)
  have y2:decide ((3000:Int)<(T.length:Int))=true:=dT (by omega)
 case' neg=>
  have Y:decide ((300:Int)<(S.length:Int)+(F.length:Int))=true:=dT (by omega)
 all_goals
  have y3:(S.length:Int)+(F.length:Int)<=2097152:=by omega
  clear y
  go_in
  go_wp2_with fail
  refine Jl (v:=.tuple #[.pointer none,.bool false]) ?_ rfl (.inl ⟨E.o,rfl,j.o⟩);simp[results,results56,go_sem]
end Go.Proofs.YtfkagjelljnpdaaGreatDoor
