import Derived.Test.YtipgjenolpofpaaGreatDoorP38
set_option maxRecDepth 100000
set_option maxHeartbeats 8000000
namespace Go.Proofs.YtipgjenolpofpaaGreatDoor
open Go.ChangeShapes Go.WideShapes Go.ChangeAt Go.RowKit Go.Proofs.Tryz
theorem Qq (F:List Fn):Oq F=Og (F.map Fn.name):=by
 funext n
 unfold Oq Og;rw[List.findIdx?_map];rfl
theorem Ey.at_heap {w w':World}{b n:Nat}{f:List UInt8->Option Nat}(h:Ey w b n f)(e:w'.heap[b]? = w.heap[b]?):Ey w' b n f:=by
 obtain⟨D,⟨G,j,d,A⟩,E⟩:=h;exact⟨D,⟨G,j,e.trans d,A⟩,E⟩
theorem Ey.lt {w:World}{b n:Nat}{f:List UInt8->Option Nat}(h:Ey w b n f):b<w.heap.size:=by
 obtain⟨D,⟨G,j,d,A⟩,E⟩:=h;exact (J2.1 d).1
theorem KM.at_heap {w w':World}{b n:Nat}{g:List UInt8->Option SI}(h:KM w b n g)(e:w'.heap[b]? = w.heap[b]?):KM w' b n g:=by
 obtain⟨D,⟨G,j,d,A⟩,E⟩:=h;exact⟨D,⟨G,j,e.trans d,A⟩,E⟩
theorem G8 {w:World}{base e size n:Nat}{v:Value}{xs:List Value}{b m:Nat}{f:List UInt8->Option Nat}(h:w.ownsRow base e size v n xs)(hm:Ey w b m f):v.ownBlock≠some b:=fun e'=>by
 obtain⟨cs,E,j⟩:=Kw h b e'
 obtain⟨D,⟨G,A,d,_⟩,_⟩:=hm
 rw[j] at d
 cases d
theorem Du {w:World}{base e size n:Nat}{v:Value}{xs:List Value}{b m:Nat}{g:List UInt8->Option SI}(h:w.ownsRow base e size v n xs)(hm:KM w b m g):v.ownBlock≠some b:=fun e'=>by
 obtain⟨cs,E,j⟩:=Kw h b e'
 obtain⟨D,⟨G,A,d,_⟩,_⟩:=hm
 rw[j] at d
 cases d
structure AddedF (base kb sb fb gb n m:Nat)(S:List (List UInt8))(F:List Fn)(f:Fn)(vS vF vT v5:Value)(xs:List Value)(w w':World):Prop where
 row:∃ v1 va,Bx w' kb [vS,v1,vT,.map (some sb),.map (some fb),v5,.map (some gb)]/\w'.ownsRow base 47 3 v1 (F.length+1) (xs++Bc (f,va))/\w'.ownsRow w.heap.size 9 1 va f.args.length (U3 f.args)/\v1.ownBlock≠some kb
 names:Ey w' fb (m+1) (Oq (F++[f]))
 kinds:∃ n' g',n'<=n+6/\KM w' gb n' g'/\UI (Og S) g'
 os:w'.os=w.os
 tape:w'.tape=w.tape
 output:w'.output=w.output
 size:w.heap.size<=w'.heap.size
 block:∀ k,k<w.heap.size->k≠kb->k≠fb->k≠gb->vF.ownBlock≠some k->w'.heap[k]? = w.heap[k]?
theorem NO {w:World}{kb sb fb gb n:Nat}{S:List (List UInt8)}{F:List Fn}{T:List Tm}{p0:Option Addr}{c0:Nat}{vF vT v5:Value}{g:List UInt8->Option SI}(h:BK w kb sb fb gb n S F T (.slice p0 S.length c0) vF vT v5 g)(base m:Nat)(xs:List Value)
 (hrow:w.ownsRow base 47 3 vF F.length xs) (hrk:vF.ownBlock≠some kb) (hN:Ey w fb m (Oq F)) (hm:m<=1000) (hb:base<=w.heap.size) (f:Fn) (va:Value) (hva:O8 w va f.args) (hl:f.args.length<=5) (hzn:f.name.length<=1048576) (hz:∀ a∈f.args,a.length<=1048576) (hzs:f.sort.length<=1048576) (hn:n<=900000000)
 (hf:Nh (Og S) (Oq F) f.name=false) (hok:Kj (Oh (Og S)) f=true) (hfull:S.length+F.length<300) :
 Calls prog 59 #[.pointer (some ⟨kb,0,none⟩),.agg #[.string (Oo f.name),va,.string (Oo f.sort)]] w fun e w'=>e=.returned (.tuple #[.int .i64 (F.length:Nat),.int .i64 0])/\AddedF base kb sb fb gb n m S F f (.slice p0 S.length c0) vF vT v5 xs w w':=by
 have o6:(Oo f.name).size<=1048576:=by show f.name.toArray.size<=_;simpa using hzn
 have l9:=Hd hva;obtain⟨pa,ca,rfl,-,-,-⟩:=hva;obtain⟨V,d0,rfl⟩:=Eg hrow;have o7:Hid (Oq F f.name=none):=by
  unfold Hid;simp only[Nh,Bool.or_eq_false_iff] at hf
  cases h:Oq F f.name with
  | none=>rfl
  | some i=>rw[h] at hf;simp at hf
 obtain⟨W0,b3⟩:=O1 (w.alloc (.cells #[.string (Oo f.name),.slice pa f.args.length ca,.string (Oo f.sort)] 47));have p4:=Hd b3;have J:Hid (Up w W0):=by unfold Hid;rw[<-b3];exact Oy _ _
 have m7:Hid (W0.heap.size=w.heap.size+1):=by unfold Hid;rw[<-b3];simp
 have h0:Hid (Bx W0 w.heap.size [.string (Oo f.name),.slice pa f.args.length ca,.string (Oo f.sort)]):=by unfold Hid;rw[<-b3];exact Ox w _ _
 have HH:=Hd (h.next J.o);have q1:Hid (Hk (Og S) (Oq F) f.name=0):=by unfold Hid Hk;rw[hf];rfl
 have l7:=Hd (Xm HH.o f _ (l9.o.below J.o) hz hzs hn);rw[hok] at l7;have HR:=Hd hrow;have o9:=Hd hN;have g0:=Hd h.km.lt;have m9:=Hd h.box.lt;have j6:=Hd h.nf;have p2:Hid (kb≠gb):=Tj h.km (h.box.cell 0);have l2:Hid (fb≠kb):=UN (hN.to hm) h.box;have i8:=Hd (Du hrow h.km);have l5:=Hd (G8 hrow hN);have d6:=Hd hN.lt;clear b3 h hf hok hrow hN
 go_enter func59,ntmps59
 go_wp2_with fail
 rw[p4.o];refine (N6 kb sb fb (Og S) (Oq F) (Oo f.name) _ HH.o.box.c7.2.2.2.1 HH.o.box.c7.2.2.2.2.1 HH.o.sm HH.o.fm o6).mono ?_;rw[Ou,q1.o];rintro e I ⟨rfl,rfl⟩;have r5:=Hd h0.o;obtain⟨b0,b1,b2⟩:=h0.o.c3
 go_wp2_with fail
 refine l7.o.mono ?_;rintro e I ⟨rfl,n',g',l8,Y,j⟩;have g8:Bx I w.heap.size [.string (Oo f.name),.slice pa f.args.length ca,.string (Oo f.sort)]:=h0.o.bar j (by have:=g0.o;omega);have h1:∀ k,k<w.heap.size->k≠gb->I.heap[k]? = w.heap[k]? := fun k hk hne=>(j.block k (by have:=m7.o;omega) hne).trans (J.o.block k hk);have g1:I.ownsRow base 47 3 (.slice V F.length d0) F.length xs:=Oi HR.o (fun g hg=>h1 g (HR.o.lt g hg).2 (fun e=>i8.o (hg.trans (congrArg some e))));have e9:Ey I fb m (Oq F):=o9.o.at_heap (h1 fb d6.o j6.o);have m8:O8 I (.slice pa f.args.length ca) f.args:=(l9.o.below J.o).keep (j.keep HH.o.km);have O:Hid (w.heap.size+1<=I.heap.size):=by have:=j.size;have:=m7.o;unfold Hid;omega
 have f9:Hid (I.os=w.os/\I.tape=w.tape/\I.output=w.output):=⟨j.os.trans J.o.os,j.tape.trans J.o.tape,j.output.trans J.o.output⟩;have H1:=Hd h1;have l1:Hid (n'<=n+6/\UI (Og S) g'):=⟨l8,Y.ok⟩;have HC:Hid (∀ W,Up I W->Bx W kb [.slice p0 S.length c0,.slice V F.length d0,vT,.map (some sb),.map (some fb),v5,.map (some gb)]/\Bx W w.heap.size [.string (Oo f.name),.slice pa f.args.length ca,.string (Oo f.sort)]/\W.ownsRow base 47 3 (.slice V F.length d0) F.length xs/\Ey W fb m (Oq F)/\KM W gb n' g'/\O8 W (.slice pa f.args.length ca) f.args):=fun W hW=>
  ⟨Y.box.below Y.box.lt hW,g8.below g8.lt hW,Oi g1 (fun g hg=>hW.block g (g1.lt g hg).2),e9.low hW e9.lt,Y.km.low hW Y.km.lt,m8.below hW⟩
 clear g8 h1 g1 e9 m8 l8 Y j b0 b1 b2;obtain⟨hA,hB,-,-,-,-⟩:=HC.o I (Jh _ _);obtain⟨a0,a1⟩:=hA.k2;clear hA hB
 go_wp2_with fail
 refine (Q4 kb p0 V S.length c0 F.length d0 _ a0 a1 (by omega) (by omega)).mono ?_;rw[Jg (by omega)];rintro e w2 ⟨rfl,g9⟩;have g7:=Hd g9;obtain⟨hA,hB,-,-,-,hV⟩:=HC.o w2 g9;have o2:=Hd hV;clear a0 a1 g9 hV;have a1:=hA.cell 1;simp only[Jo,Jr] at a1;obtain⟨b0,b1,b2⟩:=hB.c3;clear hA hB
 go_wp2_with fail
 refine (A7 f _ w2 o2.o hl hzn hzs hz).mono ?_;rintro e w3 ⟨p3,n3,c3,rfl,G,l3⟩;obtain⟨q3,o8,e3⟩:=Eg G;obtain rfl:n3=f.args.length:=by cases e3;rfl
 clear e3 q3 o8;have j2:=Hd (E7 G g7.o.size);have A:=Hd (g7.o.trans (l3.mono g7.o.size));clear G l3 a1 b0 b1 b2;obtain⟨hA,hB,-,-,-,-⟩:=HC.o w3 A.o;obtain⟨b0,b1,b2⟩:=hB.c3;obtain⟨f0,f1,f2⟩:=hB.f3;obtain⟨K,d8⟩:=O1 (((w3.setCell ⟨w.heap.size,0,none⟩ (.string (Oo f.name))).setCell ⟨w.heap.size,1,none⟩ (.slice p3 f.args.length c3)).setCell ⟨w.heap.size,2,none⟩ (.string (Oo f.sort)));have g5:=Hd d8;have j9:Bx K w.heap.size [.string (Oo f.name),.slice p3 f.args.length c3,.string (Oo f.sort)]:=by rw[<-d8];exact ((hB.set 0 _).set 1 _).set 2 _
 have g3:=Hd j9;have h4:∀ k,k≠w.heap.size->K.heap[k]? = w3.heap[k]? := fun k hk=>by rw[<-d8,Jq _ _ _ _ hk,Jq _ _ _ _ hk,Jq _ _ _ _ hk]
 have H4:=Hd h4;clear hA hB d8 j9 h4
 go_upto_region 1 with fail
 rw[g5.o];have d3:Hid (kb≠w.heap.size/\fb≠w.heap.size/\gb≠w.heap.size):=by have:=m9.o;have:=d6.o;have:=g0.o;unfold Hid;omega
 obtain⟨i6,-,j5,m5,l4,-⟩:=HC.o w3 A.o;have i7:Bx K kb [.slice p0 S.length c0,.slice V F.length d0,vT,.map (some sb),.map (some fb),v5,.map (some gb)]:=by
  obtain⟨ty,hh⟩:=i6;exact⟨ty,(H4.o kb d3.o.1).trans hh⟩
 have k0:K.ownsRow base 47 3 (.slice V F.length d0) F.length xs:=Oi j5 (fun k hk=>H4.o k (fun e=>by have:=(HR.o.lt k hk).2;omega));have p9:Ey K fb m (Oq F):=m5.at_heap (H4.o fb d3.o.2.1);have k8:KM K gb n' g':=l4.at_heap (H4.o gb d3.o.2.2);have n2:K.ownsRow I.heap.size 9 1 (.slice p3 f.args.length c3) f.args.length (U3 f.args):=Oi j2.o (fun k hk=>H4.o k (fun e=>by have:=Ot j2.o k hk;have:=O.o;omega));have e7:=Hd i7;have n4:=Hd k0;have k7:=Hd k8;have f5:=Hd n2;have p1:Hid (I.heap.size<=K.heap.size):=by have:=A.o.size;have e:=g5.o;unfold Hid;rw[<-e];simpa[World.setCell] using this
 have f8:Hid (K.os=w.os/\K.tape=w.tape/\K.output=w.output):=by
  have e:=g5.o;unfold Hid;rw[<-e];exact⟨A.o.os.trans f9.o.1,A.o.tape.trans f9.o.2.1,A.o.output.trans f9.o.2.2⟩
 obtain⟨D,e6,hD⟩:=p9;have q2:=Hd hD;have o1:=Hd e6.isMap;have e4:K.drew.ownsMap prog 9 (plainElem prog 3) fb m D:=by
  obtain⟨es,cl,hh,p5⟩:=e6;exact⟨es,cl,hh,p5⟩
 obtain⟨U,g2,b7,d9⟩:=e4.update Il underlying86 (by unfold maxLen;omega) (N0 (Oo f.name) (by unfold maxLen;omega)) (plainElem_int underlying3 (OZ (n:=F.length) (by omega)));have q5:=Hd b7;have b6:=Hd d9;have c4:=e7.o.cell 4;simp only[Jo,Jr] at c4;obtain⟨e0,e1,e2⟩:=g3.o.c3;clear i6 j5 m5 l4 i7 k0 k8 n2 hD e6 e4 b7 d9 b0 b1 b2 f0 f1 f2
 go_region
 clear g2 c4 e0 e1 e2;have E:∀ k,k<K.heap.size->k≠fb->U.heap[k]? = K.heap[k]? := fun k hk hne=>b6.o.block k hk (fun e=>hne (Option.some.inj e));have n1:=Hd E;have d5:Bx U kb [.slice p0 S.length c0,.slice V F.length d0,vT,.map (some sb),.map (some fb),v5,.map (some gb)]:=by
  have b8:=e7.o.lt;obtain⟨ty,hh⟩:=e7.o;exact⟨ty,(E kb b8 (Ne.symm l2.o)).trans hh⟩
 have d4:Bx U w.heap.size [.string (Oo f.name),.slice p3 f.args.length c3,.string (Oo f.sort)]:=by
  have b8:=g3.o.lt;obtain⟨ty,hh⟩:=g3.o;exact⟨ty,(E w.heap.size b8 (Ne.symm d3.o.2.1)).trans hh⟩
 have j3:U.ownsRow base 47 3 (.slice V F.length d0) F.length xs:=Oi n4.o (fun k hk=>E k (n4.o.lt k hk).2 (fun e=>l5.o (hk.trans (congrArg some e))));have n0:U.ownsRow I.heap.size 9 1 (.slice p3 f.args.length c3) f.args.length (U3 f.args):=Oi f5.o (fun k hk=>E k (f5.o.lt k hk).2 (fun e=>by have:=Ot f5.o k hk;have:=O.o;have:=d6.o;omega));have j7:KM U gb n' g':=k7.o.at_heap (E gb k7.o.lt (Ne.symm j6.o));have l6:Ey U fb (m+1) (Oq (F++[f])):=by
  rw[Qq,Zd];refine Ey.put (L:=F.map Fn.name) (D:=D) (fun s=>?_) o1.o (s:=f.name) ?_ ?_
  ·have:=q2.o s;rw[Qq] at this;exact this
  ·have:=o7.o;rw[Qq] at this;exact this
  have:=q5.o;rw[Zv];exact this
 obtain⟨Z,hZ⟩:=O1 U.heap.size;have s3:kb<Z:=by rw[<-hZ];exact d5.lt
 have u0:w.heap.size<Z:=by rw[<-hZ];exact d4.lt
 have q8:base<=Z:=by omega
 have s9:K.heap.size<=Z:=by rw[<-hZ];exact b6.o.size
 have k1:=d5.cell 1;simp only[Jo,Jr] at k1;obtain⟨x0,x1,x2⟩:=d4.c3;obtain⟨i0,l0,p7,o5,p6⟩:=T3;have q4:Hid (∀ i u,(Bc (f,.slice p3 f.args.length c3))[i]? = some u->((U.alloc (.cells #[.string (Oo f.name),.slice p3 f.args.length c3,.string (Oo f.sort)] 47)).drew).cell? ((⟨Z,0,none⟩:Addr).add i)=some u):=by
  have h:=World.news_of_block (cs:=#[.string (Oo f.name),.slice p3 f.args.length c3,.string (Oo f.sort)]) (t:=47) (fr:=(0,0)) (heap_alloc_new U (.cells #[.string (Oo f.name),.slice p3 f.args.length c3,.string (Oo f.sort)] 47));rw[hZ] at h;exact h
 have j4:Bx (U.alloc (.cells #[.string (Oo f.name),.slice p3 f.args.length c3,.string (Oo f.sort)] 47)).drew kb [.slice p0 S.length c0,.slice V F.length d0,vT,.map (some sb),.map (some fb),v5,.map (some gb)]:=(d5.alloc _).drew;have d7:=Hd j4;have j8:=Hd j3;have M:=Hd n0;have o3:=Hd j7;have o0:=Hd l6;have s7:=Hd d4;clear j4 j3 n0 j7 l6 d5 d4 E
 go_wp2_with fail
 go_region_law
  ((refine step_append_lies _ (by rfl) _ _ _ (by rfl) base 47 i0 _ 3 56 underlying29 l0 p7 o5 p6 rfl (by omega) (.slice V F.length d0) F.length xs (by rfl) ((j8.o.alloc _).drew)
     ⟨Z,0,none⟩ 1 1 (Bc (f,.slice p3 f.args.length c3)) (by rfl) (by rfl) q4.o (by simp[Bc,Value.oneCell'])
     (by omega) (by unfold maxLen;omega) (by omega) (by simp;omega) (Z+1) (by simp;omega) ?_;intro g6 c6 w6 b4 d e5 k9;have d1:=(d.cell_far ⟨kb,1,none⟩ (by simp;omega) (Ne.symm hrk)).trans (d7.o.cell 1);have d2:=(d.frozen_far ⟨kb,1,none⟩ (by simp;omega) (Ne.symm hrk)).trans (d7.o.frozen 1);simp only[Jo,Jr] at d1))
 all_goals
  have h6:∀ k,k<Z->k≠kb->some k≠(Value.slice V F.length d0).ownBlock->(w6.setCell ⟨kb,1,none⟩ (.slice (some ⟨g6,0,none⟩) (F.length+1) c6)).heap[k]? = U.heap[k]? := fun k hk h1 h2=>by
   rw[Jq _ _ _ _ h1,d.block k (by simp;omega) h2];exact (Oy U _).block k (by omega)
  have j1:Bx w6 kb [.slice p0 S.length c0,.slice V F.length d0,vT,.map (some sb),.map (some fb),v5,.map (some gb)]:=by
   have b8:=d7.o.lt;obtain⟨ty,hh⟩:=d7.o;exact⟨ty,(d.block kb b8 (Ne.symm hrk)).trans hh⟩
  have b5:g6≠kb:=fun e=>by
   rcases e5 with h|h
   ·exact hrk (h.trans (congrArg some e))
   omega
  have HE:Hid (AddedF base kb sb fb gb n m S F f (.slice p0 S.length c0) (.slice V F.length d0) vT v5 xs w (w6.setCell ⟨kb,1,none⟩ (.slice (some ⟨g6,0,none⟩) (F.length+1) c6))):=by
   refine⟨⟨_,.slice p3 f.args.length c3,j1.set 1 _,Oi b4 (fun k hk=>Jq _ _ _ _ (fun e=>b5 ((Option.some.inj hk).trans e))),?_,fun e=>b5 (Option.some.inj e)⟩,o0.o.at_heap (h6 fb (by have:=d6.o;omega) l2.o (Ne.symm l5.o)),⟨n',g',l1.o.1,o3.o.at_heap (h6 gb (by have:=g0.o;omega) (Ne.symm p2.o) (Ne.symm i8.o)),l1.o.2⟩,?_,?_,?_,?_,?_⟩
   ·refine E7 (Oi M.o (fun k hk=>h6 k (by have:=(M.o.lt k hk).2;omega) (fun e=>by have:=Ot M.o k hk;have:=O.o;have:=m9.o;omega) (fun e=>?_))) (by have:=O.o;omega);obtain⟨cs,fz,h1⟩:=Kw M.o k hk;obtain⟨s6,t7,h2⟩:=Kw j8.o k e.symm;rw[h1] at h2;cases h2
   ·exact d.os.trans (b6.o.os.trans f8.o.1)
   ·exact d.tape.trans (b6.o.tape.trans f8.o.2.1)
   ·exact d.output.trans (b6.o.output.trans f8.o.2.2)
   ·have h1:=d.size;have h2:Z<=w6.heap.size:=by simp at h1;omega
    simp only[World.setCell,Z1];omega
   intro k hk h1 h2 h3 h4;rw[h6 k (by omega) h1 (Ne.symm h4),n1.o k (by have:=p1.o;have:=O.o;omega) h2,H4.o k (by omega),A.o.block k (by have:=O.o;omega),H1.o k hk h3]
  clear h6 j1 b5 b4 d e5 k9 d1 d2 k1 x0 x1 x2
  go_wp2_with fail
  refine Jj (v:=.tuple #[.int .i64 (F.length:Nat),.int .i64 0]) ?_ rfl ⟨rfl,HE.o⟩;simp[results,results59,go_sem]
theorem Bx.cs6 {W:World}{g:Nat}{a b c d e f:Value}(h:Bx W g [a,b,c,d,e,f]):W.cell? ⟨g,0,none⟩=some a/\W.cell? ⟨g,1,none⟩=some b/\W.cell? ⟨g,2,none⟩=some c/\W.cell? ⟨g,3,none⟩=some d/\W.cell? ⟨g,4,none⟩=some e/\W.cell? ⟨g,5,none⟩=some f:=
 ⟨h.cell 0,h.cell 1,h.cell 2,h.cell 3,h.cell 4,h.cell 5⟩
theorem Es.at_heap {w w':World}{b n:Nat}{T:List Tm}(h:Es w b n T)(e:w'.heap[b]? = w.heap[b]?):Es w' b n T:=by
 obtain⟨D,⟨G,j,d,A⟩,E⟩:=h;exact⟨D,⟨G,j,e.trans d,A⟩,E⟩
theorem Es.lt {w:World}{b n:Nat}{T:List Tm}(h:Es w b n T):b<w.heap.size:=by
 obtain⟨D,⟨G,j,d,A⟩,E⟩:=h;exact (J2.1 d).1
theorem X8 {w:World}{base e size n:Nat}{v:Value}{xs:List Value}{b m:Nat}{T:List Tm}(h:w.ownsRow base e size v n xs)(hm:Es w b m T):v.ownBlock≠some b:=fun e'=>by
 obtain⟨cs,E,j⟩:=Kw h b e'
 obtain⟨D,⟨G,A,d,_⟩,_⟩:=hm
 rw[j] at d
 cases d
theorem Ab {w:World}{b m g:Nat}{T:List Tm}{l:List Value}(hm:Es w b m T)(h:Bx w g l):b≠g:=by
 rintro rfl;obtain⟨E,h⟩:=h;obtain⟨D,⟨A,j,d,_⟩,_⟩:=hm;rw[h] at d
 cases d
structure AddedT (base kb sb fb gb tb n m:Nat)(S:List (List UInt8))(T:List Tm)(t:Tm)(vS vF vT:Value)(xs:List Value)(w w':World):Prop where
 row:∃ v1 va,Bx w' kb [vS,vF,v1,.map (some sb),.map (some fb),.map (some tb),.map (some gb)]/\w'.ownsRow base 57 6 v1 (T.length+1) (xs++R1 (t,va))/\w'.ownsRow w.heap.size 3 1 va t.kids.length (G7 t.kids)/\v1.ownBlock≠some kb
 terms:Es w' tb (m+1) (T++[t])
 kinds:∃ n' g',n'<=n+60/\KM w' gb n' g'/\UI (Og S) g'
 os:w'.os=w.os
 tape:w'.tape=w.tape
 output:w'.output=w.output
 size:w.heap.size<=w'.heap.size
 block:∀ k,k<w.heap.size->k≠kb->k≠tb->k≠gb->vT.ownBlock≠some k->w'.heap[k]? = w.heap[k]?
theorem S0 {w:World}{kb sb fb gb tb n nT:Nat}{S:List (List UInt8)}{F:List Fn}{T:List Tm}{vS vF vT:Value}{g:List UInt8->Option SI}(h:BK w kb sb fb gb n S F T vS vF vT (.map (some tb)) g)(htm:Es w tb nT T)(hnT:nT<=1000000)(hne:tb≠gb)(base:Nat)(xs:List Value)
 (hrow:w.ownsRow base 57 6 vT T.length xs) (hrk:vT.ownBlock≠some kb) (hb:base<=w.heap.size) (t:Tm) (vk:Value) (hk:U6 w vk t.kids) (num:Tm->Bool) (hT:T.length<3000) (hF:F.length<=1000) (hz:∀ u∈T,u.sort.length<=1048576) (hn:n<=800000000) (hwf:WfT t)
 (hnum:t.op=12->((Ov (Oh (Og S)) t.sort).kind=2∨(Ov (Oh (Og S)) t.sort).kind=3)->∀ W,Bar gb w W->Calls prog 118 #[.string (Oo t.sort),.string (Oo t.text)] W fun e w'=>e=.returned (.bool (num t))/\Up W w') (hyes:Gx (Ov (Oh (Og S))) num F (Oq F) T t=true) (hj:Im T t=none) :
 Calls prog 61 #[.pointer (some ⟨kb,0,none⟩),Ie t vk] w fun e w'=>e=.returned (.tuple #[.int .i64 (T.length:Nat),.int .i64 0])/\AddedT base kb sb fb gb tb n nT S T t vS vF vT xs w w':=by
 have HI:=Hd hk;obtain⟨qk,dk,rfl,w1,u0,-⟩:=hk;obtain⟨q0,d0,rfl⟩:=Eg hrow;have HH:=Hd h;obtain⟨W0,d9⟩:=O1 (w.alloc (.cells #[.int .i64 t.op,.string (Oo t.sort),.string (Oo t.text),.int .i64 t.a,.int .i64 t.b,.slice qk t.kids.length dk] 57));have t6:=Hd d9;have HB:Hid (Up w W0):=by unfold Hid;rw[<-d9];exact Oy _ _
 have p7:Hid (W0.heap.size=w.heap.size+1):=by unfold Hid;rw[<-d9];simp
 have s5:Hid (Bx W0 w.heap.size [.int .i64 t.op,.string (Oo t.sort),.string (Oo t.text),.int .i64 t.a,.int .i64 t.b,.slice qk t.kids.length dk]):=by unfold Hid;rw[<-d9];exact Ox _ _ _
 have l7:=Hd (Xu (h.next HB.o) t (.slice qk t.kids.length dk) (HI.o.below HB.o) num (by omega) (by have:=hwf.kids;omega) hF hz hwf.sort hwf.text hn (fun h12 hk W hW=>hnum h12 hk W ((Bar.of HB.o).trans hW)));have r4:=Hd htm;have HR:=Hd hrow;have I:=Hd hwf;have HJ:=Hd hj;have i6:=Hd h.km.lt;have l9:=Hd h.box.lt;have e8:=Hd htm.lt;have s9:Hid (kb≠gb):=Tj h.km (h.box.cell 0);have o1:Hid (tb≠kb):=Ab htm h.box;have m9:=Hd (Du hrow h.km);have q1:=Hd (X8 hrow htm);clear h hz hnum w1 u0 htm hj d9 hrow;rw[hyes] at l7;unfold Ie at l7 ⊢
 go_enter func61,ntmps61
 go_wp2_with fail
 rw[t6.o];refine l7.o.mono ?_;rintro e w2 ⟨rfl,n2,g2,H2,e7,j⟩;have q4:=j.keep (HH.o.next HB.o).km;have n4:=Hd ((HI.o.below HB.o).keep q4);have h1:∀ k,k<w.heap.size->k≠gb->w2.heap[k]? = w.heap[k]? := fun k hk hne=>(j.block k (by have:=p7.o;omega) hne).trans (HB.o.block k hk);have H1:=Hd h1;have b7:=Hd e7;have p2:Hid (n2<=n+60/\UI (Og S) g2):=⟨by omega,e7.ok⟩;have j1:=Hd (r4.o.at_heap (h1 tb e8.o hne));have o2:Hid (w2.ownsRow base 57 6 (.slice q0 T.length d0) T.length xs):=Oi HR.o (fun g hg=>h1 g (HR.o.lt g hg).2 (fun e=>m9.o (hg.trans (congrArg some e))));have f9:Hid (Bx w2 w.heap.size [.int .i64 t.op,.string (Oo t.sort),.string (Oo t.text),.int .i64 t.a,.int .i64 t.b,.slice qk t.kids.length dk]):=s5.o.bar j (by have:=i6.o;omega);have K:Hid (w.heap.size+1<=w2.heap.size):=by have:=j.size;have:=p7.o;unfold Hid;omega
 have k9:Hid (w2.os=w.os/\w2.tape=w.tape/\w2.output=w.output):=⟨j.os.trans HB.o.os,j.tape.trans HB.o.tape,j.output.trans HB.o.output⟩;obtain⟨a0,a1,a2,a3,a4,a5⟩:=f9.o.cs6;clear q4 e7 j h1
 go_wp2_with fail
 refine (M5 t (.slice qk t.kids.length dk) w2 n4.o I.o.kid I.o.kids).mono ?_;rintro e w3 ⟨rfl,g9⟩;have k8:Up w2 (w3.alloc (.cells #[.int .i64 t.op,.string (Oo t.sort),.string (Oo t.text),.int .i64 t.a,.int .i64 t.b,.string (Oo (K2 t.kids))] 115)):=g9.alloc g9.size _;have h9:=Ox w3 [.int .i64 t.op,.string (Oo t.sort),.string (Oo t.text),.int .i64 t.a,.int .i64 t.b,.string (Oo (K2 t.kids))] 115;have r7:w2.heap.size<=w3.heap.size:=g9.size;clear a0 a1 a2 a3 a4 a5 g9
 go_wp2_with fail
 generalize w3.heap.size=A at h9 r7 ⊢;generalize w3.alloc (.cells #[.int .i64 t.op,.string (Oo t.sort),.string (Oo t.text),.int .i64 t.a,.int .i64 t.b,.string (Oo (K2 t.kids))] 115)=W4 at k8 h9 ⊢;have G:=Hd k8;have l2:=Hd h9;have HC:Hid (∀ W,Up W4 W->Bx W kb [vS,vF,.slice q0 T.length d0,.map (some sb),.map (some fb),.map (some tb),.map (some gb)]/\Bx W w.heap.size [.int .i64 t.op,.string (Oo t.sort),.string (Oo t.text),.int .i64 t.a,.int .i64 t.b,.slice qk t.kids.length dk]/\Bx W A [.int .i64 t.op,.string (Oo t.sort),.string (Oo t.text),.int .i64 t.a,.int .i64 t.b,.string (Oo (K2 t.kids))]/\W.ownsRow base 57 6 (.slice q0 T.length d0) T.length xs/\Es W tb nT T/\KM W gb n2 g2/\U6 W (.slice qk t.kids.length dk) t.kids):=fun W hW=>by
  have d3:Up w2 W:=G.o.trans (hW.mono G.o.size);exact⟨b7.o.box.below b7.o.box.lt d3,f9.o.below f9.o.lt d3,l2.o.below l2.o.lt hW,Oi o2.o (fun g hg=>d3.block g (o2.o.lt g hg).2),j1.o.low d3 j1.o.lt,b7.o.km.low d3 b7.o.km.lt,n4.o.below d3⟩
 obtain⟨hA,hB,hK,-,m7,-,-⟩:=HC.o W4.drew (Jh _ _).drew;obtain⟨c,hc,g6⟩:=Mr m7 I.o;rw[HJ.o] at g6;simp only[Option.isSome_none] at g6;unfold B3 at g6;obtain⟨hA,hB,hK,-,-,-,-⟩:=HC.o W4 (Jh _ _);have a5:=hA.c7.2.2.2.2.2.1;have a2:=hA.c7.2.2.1;obtain⟨k0,k1,k2,k3,k4,k5⟩:=hK.cs6;clear hA hB hK m7 hc k8 h9
 go_region
 clear g6 k0 k1 k2 k3 k4 k5;obtain⟨hA,hB,hK,-,-,-,hI⟩:=HC.o W4.drew (Jh _ _).drew;obtain⟨b0,b1,b2,b3,b4,b5⟩:=HC.o W4 (Jh _ _) |>.2.1.cs6;have v6:=Hd hI;clear hA hB hK hI;have z1:decide ((3000:Int)<=(T.length:Int))=false:=dF (by omega)
 go_wp2_with fail
 have l1:=Hd (Bq t (.slice qk t.kids.length dk) W4.drew v6.o (by have:=I.o.kids;omega) I.o.sort I.o.text);unfold Ie at l1;refine l1.o.mono ?_;rintro e w6 ⟨O,n6,M,rfl,U,b8⟩;obtain⟨s4,u1,e6⟩:=Eg U;obtain rfl:n6=t.kids.length:=by cases e6;rfl
 clear e6 s4 u1 l1 a2 a5 b0 b1 b2 b3 b4 b5;have J:Hid (Up W4 w6):=⟨b8.os,b8.tape,b8.output,b8.size,b8.block⟩;have l6:Hid (w6.ownsRow W4.heap.size 3 1 (.slice O t.kids.length M) t.kids.length (G7 t.kids)):=U;clear U b8;obtain⟨-,hB,-,-,-,-,-⟩:=HC.o w6 J.o;obtain⟨b0,b1,b2,b3,b4,b5⟩:=hB.cs6;obtain⟨f0,f1,f2,f3,f4,f5⟩:=hB.f6;obtain⟨W7,c8⟩:=O1 ((((((w6.setCell ⟨w.heap.size,0,none⟩ (.int .i64 t.op)).setCell ⟨w.heap.size,1,none⟩ (.string (Oo t.sort))).setCell ⟨w.heap.size,2,none⟩ (.string (Oo t.text))).setCell ⟨w.heap.size,3,none⟩ (.int .i64 t.a)).setCell ⟨w.heap.size,4,none⟩ (.int .i64 t.b)).setCell ⟨w.heap.size,5,none⟩ (.slice O t.kids.length M));have s1:=Hd c8;have q6:Hid (Bx W7 w.heap.size [.int .i64 t.op,.string (Oo t.sort),.string (Oo t.text),.int .i64 t.a,.int .i64 t.b,.slice O t.kids.length M]):=by unfold Hid;rw[<-c8];exact (((((hB.set 0 (.int .i64 t.op)).set 1 (.string (Oo t.sort))).set 2 (.string (Oo t.text))).set 3 (.int .i64 t.a)).set 4 (.int .i64 t.b)).set 5 (.slice O t.kids.length M)
 have h7:∀ k,k≠w.heap.size->W7.heap[k]? = w6.heap[k]? := fun k hk=>by rw[<-c8,Jq _ _ _ _ hk,Jq _ _ _ _ hk,Jq _ _ _ _ hk,Jq _ _ _ _ hk,Jq _ _ _ _ hk,Jq _ _ _ _ hk]
 have H7:=Hd h7;have u8:Hid (W7.heap.size=w6.heap.size):=by unfold Hid;rw[<-c8];simp[World.setCell]
 have i8:Below w.heap.size w6 W7:=by rw[<-c8];exact ((((((Jh w.heap.size w6).setCell (p:=⟨w.heap.size,0,none⟩) Of (.int .i64 t.op)).setCell (p:=⟨w.heap.size,1,none⟩) Of (.string (Oo t.sort))).setCell (p:=⟨w.heap.size,2,none⟩) Of (.string (Oo t.text))).setCell (p:=⟨w.heap.size,3,none⟩) Of (.int .i64 t.a)).setCell (p:=⟨w.heap.size,4,none⟩) Of (.int .i64 t.b)).setCell (p:=⟨w.heap.size,5,none⟩) Of (.slice O t.kids.length M)
 have l3:Hid (W7.os=w6.os/\W7.tape=w6.tape/\W7.output=w6.output):=⟨i8.os,i8.tape,i8.output⟩;clear i8;clear hB c8 h7
 go_upto_region 1 with fail
 rw[s1.o];clear b0 b1 b2 b3 b4 b5 f0 f1 f2 f3 f4 f5;have e1:Hid (A≠w.heap.size/\kb≠w.heap.size/\tb≠w.heap.size/\gb≠w.heap.size):=by have:=l9.o;have:=e8.o;have:=i6.o;have:=K.o;unfold Hid;omega
 have e9:Bx W7 A [.int .i64 t.op,.string (Oo t.sort),.string (Oo t.text),.int .i64 t.a,.int .i64 t.b,.string (Oo (K2 t.kids))]:=by
  obtain⟨-,-,hK,-,-,-,-⟩:=HC.o w6 J.o;obtain⟨ty,hh⟩:=hK;exact⟨ty,(H7.o A e1.o.1).trans hh⟩
 have r5:=Hd e9;obtain⟨t0,t1,t2,t3,t4,t5⟩:=q6.o.cs6;obtain⟨k0,k1,k2,k3,k4,k5⟩:=e9.cs6;have g1:=e9.frozen 1;have g2:=e9.frozen 2;clear e9
 go_region
 clear t0 t1 t2 t3 t4 t5 k0 k1 k2 k3 k4 k5 g1 g2
 go_upto_region 1 with fail
 obtain⟨E,d4⟩:=O1 (((W7.setCell ⟨A,1,none⟩ (.string (Oo t.sort))).setCell ⟨A,2,none⟩ (.string (Oo t.text))).drew);rw[d4];have g5:Below A W7 E:=by rw[<-d4];exact (((Jh A W7).setCell (p:=⟨A,1,none⟩) Of (.string (Oo t.sort))).setCell (p:=⟨A,2,none⟩) Of (.string (Oo t.text))).drew
 have h8:∀ k,k≠A->E.heap[k]? = W7.heap[k]? := fun k hk=>by
  rw[<-d4]
  show ((W7.setCell ⟨A,1,none⟩ (.string (Oo t.sort))).setCell ⟨A,2,none⟩ (.string (Oo t.text))).heap[k]? = _
  rw[Jq _ ⟨A,2,none⟩ _ _ hk,Jq _ ⟨A,1,none⟩ _ _ hk]
 have m8:Bx E A [.int .i64 t.op,.string (Oo t.sort),.string (Oo t.text),.int .i64 t.a,.int .i64 t.b,.string (Oo (K2 t.kids))]:=by rw[<-d4];exact ((r5.o.set 1 (.string (Oo t.sort))).set 2 (.string (Oo t.text))).drew
 have u7:E.heap.size=W7.heap.size:=by rw[<-d4];simp[World.setCell]
 clear d4;have Y:∀ k,k≠A->k≠w.heap.size->E.heap[k]? = w6.heap[k]? := fun k hk hk2=>(h8 k hk).trans (H7.o k hk2);have i7:Hid (kb≠A/\tb≠A/\gb≠A/\w.heap.size≠A):=by have:=l9.o;have:=e8.o;have:=i6.o;have:=K.o;unfold Hid;omega
 obtain⟨q5,-,-,q2,n9,p9,-⟩:=HC.o w6 J.o;have n5:Bx E kb [vS,vF,.slice q0 T.length d0,.map (some sb),.map (some fb),.map (some tb),.map (some gb)]:=by
  obtain⟨ty,hh⟩:=q5;exact⟨ty,(Y kb i7.o.1 e1.o.2.1).trans hh⟩
 have n1:Bx E w.heap.size [.int .i64 t.op,.string (Oo t.sort),.string (Oo t.text),.int .i64 t.a,.int .i64 t.b,.slice O t.kids.length M]:=by
  obtain⟨ty,hh⟩:=q6.o;exact⟨ty,(h8 _ i7.o.2.2.2).trans hh⟩
 have p4:E.ownsRow base 57 6 (.slice q0 T.length d0) T.length xs:=Oi q2 (fun k hk=>Y k (fun e=>by have:=(HR.o.lt k hk).2;have:=K.o;omega) (fun e=>by have:=(HR.o.lt k hk).2;omega));have r6:Es E tb nT T:=n9.at_heap (Y tb i7.o.2.1 e1.o.2.2.1);have o6:KM E gb n2 g2:=p9.at_heap (Y gb i7.o.2.2.1 e1.o.2.2.2);have y4:A<W4.heap.size:=l2.o.lt;have o7:E.ownsRow W4.heap.size 3 1 (.slice O t.kids.length M) t.kids.length (G7 t.kids):=Oi l6.o (fun k hk=>Y k (fun e=>by have:=Ot l6.o k hk;omega) (fun e=>by have:=Ot l6.o k hk;have:=K.o;have:=G.o.size;omega));have s8:Hid (∀ k,k<w.heap.size->k≠gb->E.heap[k]? = w.heap[k]?):=fun k hk hne=>by rw[Y k (by have:=K.o;omega) (by omega),J.o.block k (by have:=K.o;have:=G.o.size;omega),G.o.block k (by have:=K.o;omega),H1.o k hk hne]
 have l0:Hid (E.os=w.os/\E.tape=w.tape/\E.output=w.output):=
  ⟨g5.os.trans (l3.o.1.trans (J.o.os.trans (G.o.os.trans k9.o.1))),g5.tape.trans (l3.o.2.1.trans (J.o.tape.trans (G.o.tape.trans k9.o.2.1))),g5.output.trans (l3.o.2.2.trans (J.o.output.trans (G.o.output.trans k9.o.2.2)))⟩
 have g7:Hid (W4.heap.size<=E.heap.size/\w.heap.size+1<=W4.heap.size):=by have:=u8.o;have:=J.o.size;have:=K.o;have:=G.o.size;unfold Hid;omega
 have j9:=Hd n5;have o3:=Hd p4;have o4:=Hd o6;have k7:=Hd o7;have q3:=Hd n1;obtain⟨D,j8,hD⟩:=r6;have v1:=Hd hD;have r3:=Hd j8.isMap;have j3:E.drew.ownsMap prog 115 (plainElem prog 3) tb nT D:=by
  obtain⟨es,cl,hh,t7⟩:=j8;exact⟨es,cl,hh,t7⟩
 obtain⟨w9,e4,e0,j4⟩:=j3.update UK underlying87 (by unfold maxLen;omega) (Iu I.o) (plainElem_int underlying3 (OZ (n:=T.length) (by omega)));unfold B3 at e4;have u2:=Hd e0;have g3:=Hd j4;have c5:=j9.o.cell 5;simp only[Jo,Jr] at c5;obtain⟨k0,k1,k2,k3,k4,k5⟩:=m8.cs6;clear g5 h8 m8 u7 Y q5 q2 n9 p9 n5 n1 p4 o6 o7 hD j8 j3 e0 j4
 go_region
 clear e4 c5 k0 k1 k2 k3 k4 k5;have V:∀ k,k<E.heap.size->k≠tb->w9.heap[k]? = E.heap[k]? := fun k hk hne=>g3.o.block k hk (fun e=>hne (Option.some.inj e));have o8:=Hd V;have h0:Bx w9 kb [vS,vF,.slice q0 T.length d0,.map (some sb),.map (some fb),.map (some tb),.map (some gb)]:=by
  have g0:=j9.o.lt;obtain⟨ty,hh⟩:=j9.o;exact⟨ty,(V kb g0 (Ne.symm o1.o)).trans hh⟩
 have l4:Bx w9 w.heap.size [.int .i64 t.op,.string (Oo t.sort),.string (Oo t.text),.int .i64 t.a,.int .i64 t.b,.slice O t.kids.length M]:=by
  have g0:=q3.o.lt;obtain⟨ty,hh⟩:=q3.o;exact⟨ty,(V w.heap.size g0 (Ne.symm e1.o.2.2.1)).trans hh⟩
 have p3:w9.ownsRow base 57 6 (.slice q0 T.length d0) T.length xs:=Oi o3.o (fun k hk=>V k (o3.o.lt k hk).2 (fun e=>q1.o (hk.trans (congrArg some e))));have n0:w9.ownsRow W4.heap.size 3 1 (.slice O t.kids.length M) t.kids.length (G7 t.kids):=Oi k7.o (fun k hk=>V k (k7.o.lt k hk).2 (fun e=>by have:=Ot k7.o k hk;have:=g7.o;have:=e8.o;omega));have o9:KM w9 gb n2 g2:=o4.o.at_heap (V gb o4.o.lt (Ne.symm hne));have o5:Es w9 tb (nT+1) (T++[t]):=Es.put v1.o r3.o I.o HJ.o u2.o;obtain⟨Z,hZ⟩:=O1 w9.heap.size;have z6:kb<Z:=by rw[<-hZ];exact h0.lt
 have K6:w.heap.size<Z:=by rw[<-hZ];exact l4.lt
 have w7:base<=Z:=by omega
 have D2:E.heap.size<=Z:=by rw[<-hZ];exact g3.o.size
 have k1:=h0.cell 2;simp only[Jo,Jr] at k1;obtain⟨x0,x1,x2,x3,x4,x5⟩:=l4.cs6;obtain⟨i0,p1,u6,s3,t8⟩:=Dz;have v7:Hid (∀ i u,(R1 (t,.slice O t.kids.length M))[i]? = some u->((w9.alloc (.cells #[.int .i64 t.op,.string (Oo t.sort),.string (Oo t.text),.int .i64 t.a,.int .i64 t.b,.slice O t.kids.length M] 57)).drew).cell? ((⟨Z,0,none⟩:Addr).add i)=some u):=by
  have h:=World.news_of_block (cs:=#[.int .i64 t.op,.string (Oo t.sort),.string (Oo t.text),.int .i64 t.a,.int .i64 t.b,.slice O t.kids.length M]) (t:=57) (fr:=(0,0)) (heap_alloc_new w9 (.cells #[.int .i64 t.op,.string (Oo t.sort),.string (Oo t.text),.int .i64 t.a,.int .i64 t.b,.slice O t.kids.length M] 57));rw[hZ] at h;exact h
 have o0:Bx (w9.alloc (.cells #[.int .i64 t.op,.string (Oo t.sort),.string (Oo t.text),.int .i64 t.a,.int .i64 t.b,.slice O t.kids.length M] 57)).drew kb [vS,vF,.slice q0 T.length d0,.map (some sb),.map (some fb),.map (some tb),.map (some gb)]:=(h0.alloc _).drew;have i1:=Hd o0;have m6:=Hd p3;have a8:=Hd n0;have u9:=Hd o9;have v8:=Hd o5;clear o0 p3 n0 o9 o5 h0 l4 V
 go_wp2_with fail
 go_region_law
  ((refine step_append_lies _ (by rfl) _ _ _ (by rfl) base 57 i0 _ 6 80 underlying30 p1 u6 s3 t8 rfl (by omega) (.slice q0 T.length d0) T.length xs (by rfl) ((m6.o.alloc _).drew)
     ⟨Z,0,none⟩ 1 1 (R1 (t,.slice O t.kids.length M)) (by rfl) (by rfl) v7.o (by simp[R1,Value.oneCell'])
     (by omega) (by unfold maxLen;omega) (by omega) (by simp;omega) (Z+1) (by simp;omega) ?_;intro ga ca wa e3 d j0 n8;have d1:=(d.cell_far ⟨kb,2,none⟩ (by simp;omega) (Ne.symm hrk)).trans (i1.o.cell 2);have d2:=(d.frozen_far ⟨kb,2,none⟩ (by simp;omega) (Ne.symm hrk)).trans (i1.o.frozen 2);simp only[Jo,Jr] at d1))
 all_goals
  have h6:∀ k,k<Z->k≠kb->some k≠(Value.slice q0 T.length d0).ownBlock->(wa.setCell ⟨kb,2,none⟩ (.slice (some ⟨ga,0,none⟩) (T.length+1) ca)).heap[k]? = w9.heap[k]? := fun k hk h1 h2=>by
   rw[Jq _ _ _ _ h1,d.block k (by simp;omega) h2];exact (Oy w9 _).block k (by omega)
  have n3:Bx wa kb [vS,vF,.slice q0 T.length d0,.map (some sb),.map (some fb),.map (some tb),.map (some gb)]:=by
   have g0:=i1.o.lt;obtain⟨ty,hh⟩:=i1.o;exact⟨ty,(d.block kb g0 (Ne.symm hrk)).trans hh⟩
  have e5:ga≠kb:=fun e=>by
   rcases j0 with h|h
   ·exact hrk (h.trans (congrArg some e))
   omega
  have HE:Hid (AddedT base kb sb fb gb tb n nT S T t vS vF (.slice q0 T.length d0) xs w (wa.setCell ⟨kb,2,none⟩ (.slice (some ⟨ga,0,none⟩) (T.length+1) ca))):=by
   refine⟨⟨_,.slice O t.kids.length M,n3.set 2 _,Oi e3 (fun k hk=>Jq _ _ _ _ (fun e=>e5 ((Option.some.inj hk).trans e))),?_,fun e=>e5 (Option.some.inj e)⟩,v8.o.at_heap (h6 tb (by have:=e8.o;omega) o1.o (Ne.symm q1.o)),⟨n2,g2,p2.o.1,u9.o.at_heap (h6 gb (by have:=i6.o;omega) (Ne.symm s9.o) (Ne.symm m9.o)),p2.o.2⟩,?_,?_,?_,?_,?_⟩
   ·refine E7 (Oi a8.o (fun k hk=>h6 k (by have:=(a8.o.lt k hk).2;omega) (fun e=>by have:=Ot a8.o k hk;have:=g7.o;have:=l9.o;omega) (fun e=>?_))) (by have:=g7.o;omega);obtain⟨cs,fz,h1⟩:=Kw a8.o k hk;obtain⟨B2,H0,h2⟩:=Kw m6.o k e.symm;rw[h1] at h2;cases h2
   ·exact d.os.trans (g3.o.os.trans l0.o.1)
   ·exact d.tape.trans (g3.o.tape.trans l0.o.2.1)
   ·exact d.output.trans (g3.o.output.trans l0.o.2.2)
   ·have h1:=d.size;have h2:Z<=wa.heap.size:=by simp at h1;omega
    simp only[World.setCell,Z1];omega
   intro k hk h1 h2 h3 h4;rw[h6 k (by omega) h1 (Ne.symm h4),o8.o k (by have:=g7.o;omega) h2,s8.o k hk h3]
  clear h6 n3 e5 e3 d j0 n8 d1 d2 k1 x0 x1 x2 x3 x4 x5
  go_wp2_with fail
  refine Jj (v:=.tuple #[.int .i64 (T.length:Nat),.int .i64 0]) ?_ rfl ⟨rfl,HE.o⟩;simp[results,results61,go_sem]
end Go.Proofs.YtipgjenolpofpaaGreatDoor
namespace Go.Proofs.YtipgjenolpofpaaGreatDoor
open Go.ChangeShapes Go.WideShapes Go.ChangeAt Go.RowKit
structure BookS (w0:World)(kb sb fb tb gb nS:Nat)(S:List (List UInt8))(vS vT:Value)(W:World):Prop where
 low:Up w0 W
 ids:w0.heap.size<=kb/\w0.heap.size<=sb/\w0.heap.size<=fb/\w0.heap.size<=tb/\w0.heap.size<=gb
 ne:sb≠fb/\sb≠tb/\sb≠gb/\fb≠tb/\fb≠gb/\tb≠gb
 box:Bx W kb [vS,.slice none 0 0,vT,.map (some sb),.map (some fb),.map (some tb),.map (some gb)]
 sr:W.ownsRow (kb+1) 9 1 vS S.length (U3 S)
 tr:Hs W (kb+1) vT []
 sm:Ey W sb nS (Og S)
 fm:Ey W fb 0 (Oq [])
 tm:Es W tb 0 []
 km:KM W gb 0 (fun _=>none)
structure Book (w0:World)(kb sb fb tb gb n nS nF nT:Nat)(S:List (List UInt8))(F:List Fn)(T:List Tm)(vS vF vT:Value)(bF:Nat)(W:World):Prop where
 low:Up w0 W
 ids:w0.heap.size<=kb/\w0.heap.size<=sb/\w0.heap.size<=fb/\w0.heap.size<=tb/\w0.heap.size<=gb
 ne:sb≠fb/\sb≠tb/\sb≠gb/\fb≠tb/\fb≠gb/\tb≠gb
 box:Bx W kb [vS,vF,vT,.map (some sb),.map (some fb),.map (some tb),.map (some gb)]
 sr:W.ownsRow (kb+1) 9 1 vS S.length (U3 S)
 fr:Qx W bF vF F
 tr:Hs W (kb+1) vT T
 far:kb<bF/\bF<=W.heap.size/\∀ g,vS.ownBlock=some g->g<bF
 sm:Ey W sb nS (Og S)
 fm:Ey W fb nF (Oq F)
 tm:Es W tb nT T
 km:∃ g,KM W gb n g/\UI (Og S) g
theorem Ey.no_cells {w:World}{b n:Nat}{f:List UInt8->Option Nat}(h:Ey w b n f){cs:Array Value}{t:TypeId}{fz:Nat×Nat}:w.heap[b]? ≠ some (.cells cs t fz):=fun e=>by
 obtain⟨D,⟨A,j,d,_⟩,_⟩:=h
 rw[d] at e
 cases e
theorem KM.no_cells {w:World}{b n:Nat}{g:List UInt8->Option SI}(h:KM w b n g){cs:Array Value}{t:TypeId}{fz:Nat×Nat}:w.heap[b]? ≠ some (.cells cs t fz):=fun e=>by
 obtain⟨D,⟨A,j,d,_⟩,_⟩:=h
 rw[d] at e
 cases e
theorem Es.no_cells {w:World}{b n:Nat}{T:List Tm}(h:Es w b n T){cs:Array Value}{t:TypeId}{fz:Nat×Nat}:w.heap[b]? ≠ some (.cells cs t fz):=fun e=>by
 obtain⟨D,⟨A,j,d,_⟩,_⟩:=h
 rw[d] at e
 cases e
theorem Bx.no_smap {w:World}{b n g:Nat}{f:List UInt8->Option Nat}{l:List Value}(h:Ey w b n f)(hx:Bx w g l):b≠g:=by
 rintro rfl;obtain⟨t,hx⟩:=hx;exact h.no_cells hx
theorem Rr {w:World}{base e e' size n:Nat}{v:Value}{xs:List Value}(h:w.ownsRow base e size v n xs){k:Nat}{cs:Array Value}{fz:Nat×Nat}(hk:w.heap[k]? = some (.cells cs e' fz))(he:e≠e'):v.ownBlock≠some k:=fun e1=>by
 obtain⟨c,f,d⟩:=Kw h k e1
 rw[d] at hk
 cases hk
 exact he rfl
theorem BookS.add {w0:World}{kb sb fb tb gb nS:Nat}{S M:List (List UInt8)}{vS vT:Value}{W W':World}(h:BookS w0 kb sb fb tb gb nS S vS vT W)(ha:AddedS (kb+1) kb sb fb nS S M vS vT (.map (some tb)) (.map (some gb)) none 0 0 W W'):∃ vS',BookS w0 kb sb fb tb gb (nS+1) M vS' vT W':=by
 obtain⟨G,A,E,_⟩:=ha.row;have hb:∀ k,k<W.heap.size->k≠kb->k≠sb->vS.ownBlock≠some k->W'.heap[k]? = W.heap[k]? := ha.block;have d:∀ g,vS.ownBlock=some g->kb+1<=g:=Ot h.sr;refine⟨G,⟨?_,h.ids,h.ne,A,E,?_,ha.names,?_,?_,?_⟩⟩
 ·refine⟨ha.os.trans h.low.os,ha.tape.trans h.low.tape,ha.output.trans h.low.output,Yk h.low.size ha.size,fun k hk=>?_⟩;have I:=h.low.size;have J:=h.ids;rw[hb k (by omega) (by omega) (by omega) (fun e=>by have:=d k e;omega)];exact h.low.block k hk
 ·refine h.tr.keep fun g cs fz hg hge=>?_;have j:g<W.heap.size:=by rcases hg with hg|hg<;>exact (J2.1 hg).1
  refine hb g j (by omega) (fun e=>?_) ?_
  ·subst e
   rcases hg with hg|hg<;>exact h.sm.no_cells hg
  rcases hg with hg|hg
  ·exact Rr h.sr hg (by decide)
  exact Rr h.sr hg (by decide)
 ·exact h.fm.at_heap (hb fb h.fm.lt (Bx.no_smap h.fm h.box) (Ne.symm h.ne.1) (G8 h.sr h.fm))
 ·exact h.tm.at_heap (hb tb h.tm.lt (Ab h.tm h.box) (Ne.symm h.ne.2.1) (X8 h.sr h.tm))
 exact h.km.at_heap (hb gb h.km.lt (fun e=>Tj h.km (h.box.cell 0) e.symm) (Ne.symm h.ne.2.2.1) (Du h.sr h.km))
theorem BookS.all {w0:World}{kb sb fb tb gb nS:Nat}{S:List (List UInt8)}{vS vT:Value}{W:World}(h:BookS w0 kb sb fb tb gb nS S vS vT W):Book w0 kb sb fb tb gb 0 nS 0 0 S [] [] vS (.slice none 0 0) vT W.heap.size W:=
 ⟨h.low,h.ids,h.ne,h.box,h.sr,⟨[],rfl,⟨rfl,.inl ⟨rfl,rfl⟩⟩,fun x hx=>by cases hx⟩,h.tr,⟨h.box.lt,Of,fun g hg=>(h.sr.lt g hg).2⟩,h.sm,h.fm,h.tm,_,h.km,fun s x hx=>by cases hx⟩
theorem Book.bk {w0:World}{kb sb fb tb gb n nS nF nT:Nat}{S:List (List UInt8)}{F:List Fn}{T:List Tm}{vS vF vT:Value}{bF:Nat}{W:World}(h:Book w0 kb sb fb tb gb n nS nF nT S F T vS vF vT bF W)(hS:nS<=1000)(hF:nF<=1000)(hE:EV w0)(hR:RT w0):∃ g,BK W kb sb fb gb n S F T vS vF vT (.map (some tb)) g:=by
 obtain⟨g,d,j⟩:=h.km;exact⟨g,h.box,h.sm.to hS,h.fm.to hF,h.fr.at,h.tr.at,d,j,hE.keep (Below.keep h.low),hR.keep (Below.keep h.low),h.ne.2.2.1,h.ne.2.2.2.2.1⟩
theorem Book.addF {w0:World}{kb sb fb tb gb n nS nF nT:Nat}{S:List (List UInt8)}{F:List Fn}{T:List Tm}{vS vF vT:Value}{bF:Nat}{W W':World}(h:Book w0 kb sb fb tb gb n nS nF nT S F T vS vF vT bF W){X:List (Fn×Value)}{f:Fn}(hX:X.map Prod.fst=F)(hr:W.ownsRow bF 47 3 vF F.length (X.flatMap Bc))(hA:∀ x∈X,W.ownsRow bF 9 1 x.2 x.1.args.length (U3 x.1.args))
 (ha:AddedF bF kb sb fb gb n nF S F f vS vF vT (.map (some tb)) (X.flatMap Bc) W W'):∃ vF' n',n'<=n+6/\Book w0 kb sb fb tb gb n' nS (nF+1) nT S (F++[f]) T vS vF' vT bF W':=by
 obtain⟨Z,V,U,M,I,_⟩:=ha.row;obtain⟨n',Y,J,O,E⟩:=ha.kinds;obtain⟨g0,G,-⟩:=h.km;have hb:∀ k,k<W.heap.size->k≠kb->k≠fb->k≠gb->vF.ownBlock≠some k->W'.heap[k]? = W.heap[k]? := ha.block;have K:∀ g,vF.ownBlock=some g->bF<=g:=Ot hr;have A:=h.far;have d:∀ g cs ty fz,W.heap[g]? = some (.cells cs ty fz)->ty≠47->g≠kb->W'.heap[g]? = W.heap[g]? := fun g cs ty fz hg ht hne=>
  hb g (J2.1 hg).1 hne (fun e=>h.fm.no_cells (e ▸ hg)) (fun e=>G.no_cells (e ▸ hg)) (Rr hr hg (Ne.symm ht))
 refine⟨Z,n',J,⟨?_,h.ids,h.ne,U,?_,⟨X++[(f,V)],?_,?_,?_⟩,?_,⟨A.1,Yk A.2.1 ha.size,A.2.2⟩,?_,ha.names,?_,Y,O,E⟩⟩
 ·refine⟨ha.os.trans h.low.os,ha.tape.trans h.low.tape,ha.output.trans h.low.output,Yk h.low.size ha.size,fun k hk=>?_⟩;have h1:=h.low.size;have h2:=h.ids;rw[hb k (by omega) (by omega) (by omega) (by omega) (fun e=>by have:=K k e;omega)];exact h.low.block k hk
 ·refine Oi h.sr fun g hg=>?_;obtain⟨c,fz,hc⟩:=Kw h.sr g hg;exact d g c _ fz hc (by decide) (by have:=Ot h.sr g hg;omega)
 ·rw[Zd,hX];rfl
 ·rw[V0,Y7]
  simpa using M
 ·intro x j
  rcases Z5.1 j with j|j
  ·refine Oi (hA x j) fun g hg=>?_;obtain⟨c,fz,hc⟩:=Kw (hA x j) g hg;exact d g c _ fz hc (by decide) (by have:=Ot (hA x j) g hg;omega)
  obtain rfl:=List.mem_singleton.1 j;exact E7 I A.2.1
 ·refine h.tr.keep fun g cs fz hg hge=>?_
  rcases hg with hg|hg
  ·exact d g cs _ fz hg (by decide) (by omega)
  exact d g cs _ fz hg (by decide) (by omega)
 ·exact h.sm.at_heap (hb sb h.sm.lt (Bx.no_smap h.sm h.box) h.ne.1 h.ne.2.2.1 (G8 hr h.sm))
 exact h.tm.at_heap (hb tb h.tm.lt (Ab h.tm h.box) (Ne.symm h.ne.2.2.2.1) h.ne.2.2.2.2.2 (X8 hr h.tm))
theorem Book.addT {w0:World}{kb sb fb tb gb n nS nF nT:Nat}{S:List (List UInt8)}{F:List Fn}{T:List Tm}{vS vF vT:Value}{bF:Nat}{W W':World}(h:Book w0 kb sb fb tb gb n nS nF nT S F T vS vF vT bF W){X:List (Tm×Value)}{t:Tm}(hX:X.map Prod.fst=T)(hr:W.ownsRow (kb+1) 57 6 vT T.length (X.flatMap R1))(hA:∀ x∈X,W.ownsRow (kb+1) 3 1 x.2 x.1.kids.length (G7 x.1.kids))
 (ha:AddedT (kb+1) kb sb fb gb tb n nT S T t vS vF vT (X.flatMap R1) W W'):∃ vT' n',n'<=n+60/\Book w0 kb sb fb tb gb n' nS nF (nT+1) S F (T++[t]) vS vF vT' bF W':=by
 obtain⟨Z,V,U,M,I,_⟩:=ha.row;obtain⟨n',Y,J,O,E⟩:=ha.kinds;obtain⟨g0,G,-⟩:=h.km;have hb:∀ k,k<W.heap.size->k≠kb->k≠tb->k≠gb->vT.ownBlock≠some k->W'.heap[k]? = W.heap[k]? := ha.block;have K:∀ g,vT.ownBlock=some g->kb+1<=g:=Ot hr;have A:=h.far;have a7:=h.box.lt;have d:∀ g cs ty fz,W.heap[g]? = some (.cells cs ty fz)->ty≠57->g≠kb->W'.heap[g]? = W.heap[g]? := fun g cs ty fz hg ht hne=>
  hb g (J2.1 hg).1 hne (fun e=>h.tm.no_cells (e ▸ hg)) (fun e=>G.no_cells (e ▸ hg)) (Rr hr hg (Ne.symm ht))
 refine⟨Z,n',J,⟨?_,h.ids,h.ne,U,?_,?_,⟨X++[(t,V)],?_,?_,?_⟩,⟨A.1,Yk A.2.1 ha.size,A.2.2⟩,?_,?_,ha.terms,Y,O,E⟩⟩
 ·refine⟨ha.os.trans h.low.os,ha.tape.trans h.low.tape,ha.output.trans h.low.output,Yk h.low.size ha.size,fun k hk=>?_⟩;have h1:=h.low.size;have h2:=h.ids;rw[hb k (by omega) (by omega) (by omega) (by omega) (fun e=>by have:=K k e;omega)];exact h.low.block k hk
 ·refine Oi h.sr fun g hg=>?_;obtain⟨c,fz,hc⟩:=Kw h.sr g hg;exact d g c _ fz hc (by decide) (by have:=Ot h.sr g hg;omega)
 ·refine h.fr.keep fun g cs fz hg hge=>?_
  rcases hg with hg|hg
  ·exact d g cs _ fz hg (by decide) (by omega)
  exact d g cs _ fz hg (by decide) (by omega)
 ·rw[Zd,hX];rfl
 ·rw[V0,Y7]
  simpa using M
 ·intro x j
  rcases Z5.1 j with j|j
  ·refine Oi (hA x j) fun g hg=>?_;obtain⟨c,fz,hc⟩:=Kw (hA x j) g hg;exact d g c _ fz hc (by decide) (by have:=Ot (hA x j) g hg;omega)
  obtain rfl:=List.mem_singleton.1 j;exact E7 I (by omega)
 ·exact h.sm.at_heap (hb sb h.sm.lt (Bx.no_smap h.sm h.box) h.ne.2.1 h.ne.2.2.1 (G8 hr h.sm))
 exact h.fm.at_heap (hb fb h.fm.lt (Bx.no_smap h.fm h.box) h.ne.2.2.2.1 h.ne.2.2.2.2.1 (G8 hr h.fm))
def addP (S:List (List UInt8))(num:Tm->Bool)(F:List Fn)(T:List Tm)(i:Nat):Bool:=match T[i]? with
 | none=>true
 | some t=>Gx (Ov (Oh (Og S))) num F (Oq F) (T.take i) t&&(Im (T.take i) t).isNone
def Gb (S:List (List UInt8))(num:Tm->Bool)(F:List Fn)(T:List Tm):Bool:=decide (T.length<=3000)&&decide (S.length+F.length<=300)&&Hu (S++F.map (·.name))&&F.all (Kj (Oh (Og S)))&&(List.range T.length).all (addP S num F T)
theorem seek_idx (T:List Tm)(t:Tm):decide (Gg T t<0)=(Im T t).isNone:=by
 unfold Gg Im
 cases T.findIdx? (fun u=>decide (u=t)) with
 | none=>rfl
 | some i=>simp
theorem NL:∀ r∈rules,r.sort≠0:=by decide
theorem OY {rd:List UInt8->SI}{num:Tm->Bool}{F:List Fn}{f2:List UInt8->Option Nat}{T:List Tm}{t:Tm}(h:Gx rd num F f2 T t=true):(rd t.sort).kind≠0:=by
 unfold Gx at h
 cases j:Ep t.op with
 | none=>rw[j] at h;cases h
 | some r=>
   rw[j] at h;simp only[J4] at h;have d:=h.1.1.1.2;have A:=NL r (Xb j);unfold O5 at d
   split at d
   ·simpa using d
   ·split at d
    ·simp only[Ur,Yg] at d;omega
    ·simp only[Yg] at d;omega
theorem EP {T:List Tm}{i:Nat}{x:Int}(h:0<=x/\x<(i:Int)):Ky (T.take i) x=Ky T x:=by
 unfold Ky;rw[List.getElem?_take_of_lt (by omega)]
theorem QV {S:List (List UInt8)}{num:Tm->Bool}{F:List Fn}{T:List Tm}{i:Nat}(hi:i<=T.length)(t:Tm):Kd S num F T i t=Mw (Ov (On S)) num F (T.take i) t:=by
 unfold Kd Mw;rw[J3,Zi hi]
 cases J:Kf t
 ·rfl
 cases G:I6 i t
 ·rfl
 simp only[Za];have hx:∀ x∈t.kids,Ky (T.take i) x=Ky T x:=fun x hx=>EP (by simpa using Ju.1 G x hx);have I:E1 (T.take i) t=E1 T t:=by
  unfold E1;exact List.map_congr_left (fun x hx'=>by rw[hx x hx'])
 rw[I];have hl:=(Kt J).1;unfold Nz
 by_cases d:t.op=16
 ·have E:Ky (T.take i) (t.kids.headD 0)=Ky T (t.kids.headD 0):=by
   cases A:t.kids with
   | nil=>rw[A,d] at hl;exact absurd hl (by decide)
   | cons x r=>exact hx x (by rw[A];simp)
  rw[E]
  split<;>first|rfl|(exfalso;omega)|skip
  all_goals (repeat (first|rfl|split))
  all_goals (first|rfl|(exfalso;omega))
 by_cases j:t.op=21∨t.op=22
 ·have K:2<=t.kids.length:=by rcases j with h|h<;>(rw[h] at hl;exact hl)
  have E:Ky (T.take i) ((t.kids[1]?).getD 0)=Ky T ((t.kids[1]?).getD 0):=by
   rw[Jf (by omega)];exact hx _ (Jw _)
  rw[E];rw[if_neg d,if_neg d]
 rw[if_neg d,if_neg d,if_neg j,if_neg j]
theorem OR {L M:List (List UInt8)}(h:Hu (L++M)=true):∀ n∈L,E5 n=true:=by
 intro n hn;obtain⟨j,d,rfl⟩:=Ya hn;unfold Hu at h;have:=Ju.1 h j (Y6.2 (by rw[Y7];omega));rw[List.getElem?_append_left d,Jf d] at this;simp only[J4] at this;exact this.1
theorem OH {own:List UInt8->Bool}{f:Fn}(h:Kj own f=true):(Ov own f.sort).kind≠0:=by
 unfold Kj at h;simp only[J4,Yg] at h;exact h.1.2
theorem QO (S:List (List UInt8))(num:Tm->Bool)(F:List Fn)(T:List Tm)(hnum:∀ own t,num t=true->(Ov own t.sort).kind=2∨(Ov own t.sort).kind=3):Gb S num F T=Hh S num F T:=by
 unfold Gb Hh N3
 by_cases I:¬ T.length<=3000
 ·rw[Jg I];rfl
 have I:=Decidable.not_not.1 I;rw[Jb I];simp only[Za]
 by_cases J:¬ S.length+F.length<=300
 ·rw[Jg J];rfl
 have J:=Decidable.not_not.1 J;rw[Jb J];simp only[Za]
 cases h3:Hu (S++F.map (·.name))
 ·rfl
 simp only[Za];have d:=QE (OR h3);rw[d]
 cases h4:F.all (Kj (On S))
 ·rfl
 simp only[Za];have M:∀ f∈F,(Ov (On S) f.sort).kind≠0:=fun f hf=>OH (Ju.1 h4 f hf);have G:∀ i,(∀ j,j<i->addP S num F T j=true)->i<T.length->addP S num F T i=(match T[i]? with|none=>true|some t=>Kd S num F T i t&&decide (Gg (T.take i) t<0)):=by
  intro i U E;have K:∀ u∈T.take i,(Ov (On S) u.sort).kind≠0:=by
   intro u V;obtain⟨j,hj,rfl⟩:=Ya V;rw[J3] at hj;have:=U j (by omega);unfold addP at this;rw[Jf (by omega),d] at this;simp only[J4] at this;rw[List.getElem_take];exact OY this.1
  unfold addP;rw[Jf E,d];simp only;rw[FV (OK _) K M rfl (hnum (On S)),QV (by omega),seek_idx]
 rw[Yb,Ju,Ju];constructor
 ·intro h i E;have A:=Y6.1 E;exact (G i (fun j hj=>h j (Y6.2 (by omega))) A).symm.trans (h i E)
 intro h i E;have A:=Y6.1 E;have:∀ k,k<=T.length->∀ j,j<k->addP S num F T j=true:=by
  intro k
  induction k with
  | zero=>intro _ j hj;exact absurd hj (J1 _)
  | succ k ih=>
    intro Y j hj
    rcases J0.1 hj with O|rfl
    ·exact ih (by omega) j O
    ·exact (G j (ih (by omega)) (by omega)).trans (h j (Y6.2 (by omega)))
 exact this T.length Of i A
theorem T7 (A B:List (List UInt8))(s:List UInt8):On (A++B) s=(On A s||On B s):=by
 unfold On;rw[Yb];simp
theorem ZW (F:List Fn)(n:List UInt8):(Oq F n).isSome=On (F.map (·.name)) n:=by rw[Qq,idxF_some]
theorem Ig (A:List (List UInt8))(B:List Fn)(s:List UInt8):Nh (Og A) (Oq B) s=!(E5 s&&!On (A++B.map (·.name)) s):=by
 unfold Nh;rw[idxF_some,ZW,T7]
 cases E5 s<;>cases On A s<;>cases On (B.map (·.name)) s<;>rfl
theorem Db {S:List (List UInt8)}{num:Tm->Bool}{F:List Fn}{T:List Tm}(h:Hu (S++F.map (·.name))=false):Gb S num F T=false:=by
 unfold Gb;rw[h];simp
theorem Wp {S:List (List UInt8)}{num:Tm->Bool}{F:List Fn}{T:List Tm}{k:Nat}(hk:k<S.length)(h:Nh (Og (S.take k)) (Oq []) S[k]=true):Gb S num F T=false:=by
 refine Db (freshL_no (i:=k) (by rw[Y7];omega) ?_);rw[Ig] at h;rw[Vz hk,Zt (by omega)];rw[Vt,Ua,List.append_nil] at h;exact h
theorem YF {S:List (List UInt8)}{num:Tm->Bool}{F:List Fn}{T:List Tm}{k:Nat}(hk:k<F.length)(h:Nh (Og S) (Oq (F.take k)) F[k].name=true):Gb S num F T=false:=by
 refine Db (freshL_no (i:=S.length+k) (by rw[Y7,Zv];omega) ?_);rw[Ig] at h;rw[Vn (by omega)];simp only[V6,Vi,List.take_length_add_append,<-List.map_take];rw[Vt] at h;exact h
theorem NU {S:List (List UInt8)}{num:Tm->Bool}{F:List Fn}{T:List Tm}{k:Nat}(hk:k<F.length)(h:Kj (Oh (Og S)) F[k]=false):Gb S num F T=false:=by
 have:F.all (Kj (Oh (Og S)))=false:=by
  rw[J9];intro ha;rw[Ju.1 ha _ (Jw hk)] at h;cases h
 unfold Gb;rw[this];simp
theorem Cm {S:List (List UInt8)}{num:Tm->Bool}{F:List Fn}{T:List Tm}{k:Nat}(hk:k<T.length)(h:addP S num F T k=false):Gb S num F T=false:=by
 have:(List.range T.length).all (addP S num F T)=false:=by
  rw[J9];intro ha;rw[Ju.1 ha _ (Y6.2 hk)] at h;cases h
 unfold Gb;rw[this,Y0]
theorem NR {S:List (List UInt8)}{num:Tm->Bool}{F:List Fn}{T:List Tm}(h1:T.length<=3000)(h2:S.length+F.length<=300)(h3:∀ j (h:j<S.length),Nh (Og (S.take j)) (Oq []) S[j]=false)(h4:∀ j (h:j<F.length),Nh (Og S) (Oq (F.take j)) F[j].name=false/\Kj (Oh (Og S)) F[j]=true)(h5:∀ j,j<T.length->addP S num F T j=true):Gb S num F T=true:=by
 unfold Gb;rw[Jb h1,Jb h2];simp only[Za,J4];refine⟨⟨?_,?_⟩,?_⟩
 ·unfold Hu;refine Ju.2 fun i hi=>?_;have hi:=Y6.1 hi;rw[Jf hi];simp only
  by_cases d:i<S.length
  ·have:=h3 i d;rw[Ig] at this;rw[Vz d,Zt (by omega)]
   simpa using this
  rw[Y7,Zv] at hi;have:=(h4 (i - S.length) (by omega)).1;rw[Ig] at this;obtain⟨k,rfl⟩:∃ k,i=S.length+k:=⟨i - S.length,by omega⟩;rw[Vn (by omega)];simp only[V6,Vi,List.take_length_add_append,<-List.map_take] at this ⊢
  simpa using this
 ·refine Ju.2 fun f hf=>?_;obtain⟨j,A,rfl⟩:=Ya hf;exact (h4 j A).2
 exact Ju.2 fun i hi=>h5 i (Y6.1 hi)
theorem GN:∀ r∈rules,r.most<=50:=by decide
theorem QP {rd:List UInt8->SI}{num:Tm->Bool}{F:List Fn}{f2:List UInt8->Option Nat}{T:List Tm}{t:Tm}(h:Gx rd num F f2 T t=true)(hT:T.length<=3000)(ho:(Lit.int .i64 t.op).wf=true)(ha:(Lit.int .i64 t.a).wf=true)(hb:(Lit.int .i64 t.b).wf=true)(hs:t.sort.length<=1048576)(hx:t.text.length<=1048576):WfT t:=by
 unfold Gx at h
 cases d:Ep t.op with
 | none=>rw[d] at h;cases h
 | some r=>
   rw[d] at h;simp only[J4,Yg] at h;have j:=GN r (Xb d);refine⟨ho,ha,hb,hs,hx,by omega,fun x hx=>?_⟩;have:=Ju.1 h.1.1.1.1.2 x hx;rw[Yg] at this;omega
end Go.Proofs.YtipgjenolpofpaaGreatDoor
namespace Go.Proofs.YtipgjenolpofpaaGreatDoor
open Go.ChangeShapes Go.WideShapes Go.ChangeAt Go.RowKit Go.Proofs.Tryz
theorem DH (n:Int)(w:World):(Instr.makeMap 86 (some (.int .i64 n))).run prog w=.ok (.map (some w.heap.size)) (w.alloc (.map #[] 0)):=by
 simp[Instr.makeMap,go_sem]
theorem PG (n:Int)(w:World):(Instr.makeMap 87 (some (.int .i64 n))).run prog w=.ok (.map (some w.heap.size)) (w.alloc (.map #[] 0)):=by
 simp[Instr.makeMap,go_sem]
structure Made (w:World)(kb sb fb tb gb:Nat)(W:World):Prop where
 low:Up w W
 ids:w.heap.size<=kb/\w.heap.size<=sb/\w.heap.size<=fb/\w.heap.size<=tb/\w.heap.size<=gb
 ne:sb≠fb/\sb≠tb/\sb≠gb/\fb≠tb/\fb≠gb/\tb≠gb
 box:Bx W kb [.slice none 0 0,.slice none 0 0,.slice none 0 0,.map (some sb),.map (some fb),.map (some tb),.map (some gb)]
 s:W.heap[sb]? = some (.map #[] 0)
 f:W.heap[fb]? = some (.map #[] 0)
 t:W.heap[tb]? = some (.map #[] 0)
 g:W.heap[gb]? = some (.map #[] 0)
theorem Ho {w w':World}(h:Up w w')(o:Obj):Up w (w'.alloc o):=h.alloc h.size _
theorem PQ (W1:World)(i j k l:Nat)(hi:W1.heap.size<=i/\i<W1.heap.size+4)(hj:W1.heap.size<=j/\j<W1.heap.size+4)(hk:W1.heap.size<=k/\k<W1.heap.size+4)(hl:W1.heap.size<=l/\l<W1.heap.size+4)(hne:i≠j/\i≠k/\i≠l/\j≠k/\j≠l/\k≠l) :
 Made W1 (W1.heap.size+1+1+1+1) i j k l (((((W1.alloc (.map #[] 0)).alloc (.map #[] 0)).alloc (.map #[] 0)).alloc (.map #[] 0)).alloc (.cells #[.slice none 0 0,.slice none 0 0,.slice none 0 0,.map (some i),.map (some j),.map (some k),.map (some l)] 90)).drew:=by
 have A:∀ d,W1.heap.size<=d/\d<W1.heap.size+4->(((((W1.alloc (.map #[] 0)).alloc (.map #[] 0)).alloc (.map #[] 0)).alloc (.map #[] 0)).alloc (.cells #[.slice none 0 0,.slice none 0 0,.slice none 0 0,.map (some i),.map (some j),.map (some k),.map (some l)] 90)).drew.heap[d]? = some (.map #[] 0):=by
  intro d E
  show ((((((W1.heap.push _).push _).push _).push _).push _)[d]?)=_
  simp only[Array.getElem?_push,Array.size_push];rw[if_neg (by omega)]
  repeat' split
  all_goals first|rfl|(exfalso;omega)
 refine⟨?_,⟨by omega,hi.1,hj.1,hk.1,hl.1⟩,hne,?_,A i hi,A j hj,A k hk,A l hl⟩
 ·exact (Ho (Ho (Ho (Ho (Ho (Jh _ _) _) _) _) _) _).drew
 have h:=Ox ((((W1.alloc (.map #[] 0)).alloc (.map #[] 0)).alloc (.map #[] 0)).alloc (.map #[] 0)) [.slice none 0 0,.slice none 0 0,.slice none 0 0,.map (some i),.map (some j),.map (some k),.map (some l)] 90;have e:((((W1.alloc (.map #[] 0)).alloc (.map #[] 0)).alloc (.map #[] 0)).alloc (.map #[] 0)).heap.size=W1.heap.size+1+1+1+1:=by simp
 rw[e] at h;exact h.drew
theorem Af {P:Program}{k:TypeId}{R:Value->Option (DataW Unit×List MemPlace)}{W:World}{b:Nat}(h:W.heap[b]? = some (.map #[] 0)):W.ownsMap P k R b 0 (.map []):=by
 obtain⟨E,A,d,j⟩:=World.ownsMap_made (H:=Unit) W P k R;rw[heap_alloc_new] at d;cases d;exact⟨_,_,h,j⟩
theorem Ey.new {W:World}{b:Nat}(h:W.heap[b]? = some (.map #[] 0)):Ey W b 0 (Og []):=⟨_,Af h,fun _=>⟨rfl,fun i hi=>by cases hi⟩⟩
theorem Es.new {W:World}{b:Nat}(h:W.heap[b]? = some (.map #[] 0)):Es W b 0 []:=⟨_,Af h,fun _ _=>⟨rfl,fun i hi=>by cases hi⟩⟩
theorem KM.new {W:World}{b:Nat}(h:W.heap[b]? = some (.map #[] 0)):KM W b 0 (fun _=>none):=⟨_,Af h,fun _=>⟨rfl,rfl⟩⟩
theorem Made.begin {w:World}{kb sb fb tb gb:Nat}{W W2:World}{vT:Value}(h:Made w kb sb fb tb gb W)(hg:W.grownBy W2 none)(hr:W2.ownsRow (kb+1) 57 6 vT 0 []):BookS w kb sb fb tb gb 0 [] (.slice none 0 0) vT (W2.setCell ⟨kb,2,none⟩ vT):=by
 have hb:∀ k,k<W.heap.size->W2.heap[k]? = W.heap[k]? := fun k hk=>hg.block k hk (fun e=>by cases e);have hx:Bx W2 kb [.slice none 0 0,.slice none 0 0,.slice none 0 0,.map (some sb),.map (some fb),.map (some tb),.map (some gb)]:=by
  have G:=h.box.lt;obtain⟨I,j⟩:=h.box;exact⟨I,(hb kb G).trans j⟩
 have E:∀ k,k≠kb->(W2.setCell ⟨kb,2,none⟩ vT).heap[k]? = W2.heap[k]? := fun k hk=>Jq W2 ⟨kb,2,none⟩ _ k hk;have d:∀ k:Nat,W.heap[k]? = some (Obj.map #[] 0)->(W2.setCell ⟨kb,2,none⟩ vT).heap[k]? = some (Obj.map #[] 0):=fun k hk=>by
  have A:k≠kb:=by
   rintro rfl;obtain⟨I,j⟩:=h.box;rw[hk] at j;cases j
  rw[E k A,hb k (J2.1 hk).1];exact hk
 refine⟨?_,h.ids,h.ne,hx.set 2 vT,⟨rfl,.inl ⟨rfl,rfl⟩⟩,⟨[],rfl,Oi hr (fun g hgk=>E g (fun e=>by have:=Ot hr g hgk;omega)),fun x hx=>by cases hx⟩,Ey.new (d sb h.s),Ey.new (d fb h.f),Es.new (d tb h.t),KM.new (d gb h.g)⟩;have J:=h.low.size;have K:=h.ids;have h3:=hg.size;refine⟨hg.os.trans h.low.os,hg.tape.trans h.low.tape,hg.output.trans h.low.output,?_,fun k hk=>?_⟩
 ·simp only[World.setCell,Z1];omega
 rw[E k (by omega),hb k (by omega),h.low.block k hk]
end Go.Proofs.YtipgjenolpofpaaGreatDoor
