import Derived.Test.YtipgjenolpofpaaGreatDoorP38
set_option maxRecDepth 100000
set_option maxHeartbeats 8000000
namespace Go.Proofs.YtipgjenolpofpaaGreatDoor
open ChangeShapes WideShapes ChangeAt RowKit Proofs.Tryz
theorem Qh (F:List Fn):Oq F=Og (F.map Fn.name):=by
 funext n
 unfold Oq Og;rw[List.findIdx?_map];rfl
theorem Ey.at_heap {w w':World}{b n:Nat}{f:List UInt8->Option Nat}(h:Ey w b n f)(e:w'.heap[b]? = w.heap[b]?):Ey w' b n f:=by
 obtain⟨D,⟨j,d,G,E⟩,A⟩:=h;exact⟨D,⟨j,d,e.trans G,E⟩,A⟩
theorem Ey.lt {w:World}{b n:Nat}{f:List UInt8->Option Nat}(h:Ey w b n f):b<w.heap.size:=by
 obtain⟨D,⟨A,j,d,G⟩,E⟩:=h;exact (J1.1 d).1
theorem KM.at_heap {w w':World}{b n:Nat}{g:List UInt8->Option SI}(h:KM w b n g)(e:w'.heap[b]? = w.heap[b]?):KM w' b n g:=by
 obtain⟨D,⟨j,d,G,E⟩,A⟩:=h;exact⟨D,⟨j,d,e.trans G,E⟩,A⟩
theorem G9 {w:World}{base e size n:Nat}{v:Value}{xs:List Value}{b m:Nat}{f:List UInt8->Option Nat}(h:w.ownsRow base e size v n xs)(hm:Ey w b m f):v.ownBlock≠some b:=fun e'=>by
 obtain⟨cs,fz,j⟩:=Kt h b e'
 obtain⟨D,⟨E,A,d,_⟩,_⟩:=hm
 rw[j] at d
 cases d
theorem Pj {w:World}{base e size n:Nat}{v:Value}{xs:List Value}{b m:Nat}{g:List UInt8->Option SI}(h:w.ownsRow base e size v n xs)(hm:KM w b m g):v.ownBlock≠some b:=fun e'=>by
 obtain⟨cs,fz,j⟩:=Kt h b e'
 obtain⟨D,⟨E,A,d,_⟩,_⟩:=hm
 rw[j] at d
 cases d
structure AddedF (base kb sb fb gb n m:Nat)(S:List (List UInt8))(F:List Fn)(f:Fn)(vS vF vT v5:Value)(xs:List Value)(w w':World):Prop where
 row:∃ v1 va,Bx w' kb [vS,v1,vT,.map (some sb),.map (some fb),v5,.map (some gb)]/\w'.ownsRow base 47 3 v1 (F.length+1) (xs++Bm (f,va))/\w'.ownsRow w.heap.size 9 1 va f.args.length (U3 f.args)/\v1.ownBlock≠some kb
 names:Ey w' fb (m+1) (Oq (F++[f]))
 kinds:∃ n' g',n'<=n+6/\KM w' gb n' g'/\VT (Og S) g'
 os:w'.os=w.os
 tape:w'.tape=w.tape
 output:w'.output=w.output
 size:w.heap.size<=w'.heap.size
 block:∀ k,k<w.heap.size->k≠kb->k≠fb->k≠gb->vF.ownBlock≠some k->w'.heap[k]? = w.heap[k]?
theorem US {w:World}{kb sb fb gb n:Nat}{S:List (List UInt8)}{F:List Fn}{T:List Tm}{p0:Option Addr}{c0:Nat}{vF vT v5:Value}{g:List UInt8->Option SI}(h:BK w kb sb fb gb n S F T (.slice p0 S.length c0) vF vT v5 g)(base m:Nat)(xs:List Value)
 (hrow:w.ownsRow base 47 3 vF F.length xs) (hrk:vF.ownBlock≠some kb) (hN:Ey w fb m (Oq F)) (hm:m<=1000) (hb:base<=w.heap.size) (f:Fn) (va:Value) (hva:O8 w va f.args) (hl:f.args.length<=5) (hzn:f.name.length<=1048576) (hz:∀ a∈f.args,a.length<=1048576) (hzs:f.sort.length<=1048576) (hn:n<=900000000)
 (hf:Nh (Og S) (Oq F) f.name=false) (hok:Kj (Oh (Og S)) f=true) (hfull:S.length+F.length<300) :
 Calls prog 59 #[.pointer (some ⟨kb,0,none⟩),.agg #[.string (Oo f.name),va,.string (Oo f.sort)]] w fun e w'=>e=.returned (.tuple #[.int .i64 (F.length:Nat),.int .i64 0])/\AddedF base kb sb fb gb n m S F f (.slice p0 S.length c0) vF vT v5 xs w w':=by
 have q1:(Oo f.name).size<=1048576:=by show f.name.toArray.size<=_;simpa using hzn
 have k0:=Hd hva;obtain⟨pa,ca,rfl,-,-,-⟩:=hva;obtain⟨Y,U,rfl⟩:=En hrow;have o6:Hid (Oq F f.name=none):=by
  unfold Hid;simp only[Nh,Bool.or_eq_false_iff] at hf
  cases h:Oq F f.name with
  | none=>rfl
  | some i=>rw[h] at hf;simp at hf
 obtain⟨W0,b4⟩:=O1 (w.alloc (.cells #[.string (Oo f.name),.slice pa f.args.length ca,.string (Oo f.sort)] 47));have p4:=Hd b4;have A:Hid (Up w W0):=by unfold Hid;rw[<-b4];exact Oy _ _
 have j9:Hid (W0.heap.size=w.heap.size+1):=by unfold Hid;rw[<-b4];simp
 have g0:Hid (Bx W0 w.heap.size [.string (Oo f.name),.slice pa f.args.length ca,.string (Oo f.sort)]):=by unfold Hid;rw[<-b4];exact Oi w _ _
 have HH:=Hd (h.next A.o);have o0:Hid (Hk (Og S) (Oq F) f.name=0):=by unfold Hid Hk;rw[hf];rfl
 have i7:=Hd (Xc HH.o f _ (k0.o.bl A.o) hz hzs hn);rw[hok] at i7;have HR:=Hd hrow;have o5:=Hd hN;have e8:=Hd h.km.lt;have j1:=Hd h.box.lt;have j3:=Hd h.nf;have o1:Hid (kb≠gb):=Tz h.km (h.box.cell 0);have i6:Hid (fb≠kb):=UL (hN.to hm) h.box;have j8:=Hd (Pj hrow h.km);have j7:=Hd (G9 hrow hN);have c8:=Hd hN.lt;clear b4 h hf hok hrow hN
 go_in
 go_wp2_with fail
 rw[p4.o];refine (N7 kb sb fb (Og S) (Oq F) (Oo f.name) _ HH.o.box.c7.2.2.2.1 HH.o.box.c7.2.2.2.2.1 HH.o.sm HH.o.fm q1).mono ?_;rw[Ou,o0.o];rintro e K ⟨rfl,rfl⟩;have q6:=Hd g0.o;obtain⟨b0,b1,b2⟩:=g0.o.c3
 go_wp2_with fail
 refine i7.o.mono ?_;rintro e K ⟨rfl,n',g',n1,V,j⟩;have g9:Bx K w.heap.size [.string (Oo f.name),.slice pa f.args.length ca,.string (Oo f.sort)]:=g0.o.bar j (by have:=e8.o;omega);have h1:∀ k,k<w.heap.size->k≠gb->K.heap[k]? = w.heap[k]? := fun k hk hne=>(j.block k (by have:=j9.o;omega) hne).trans (A.o.block k hk);have g7:K.ownsRow base 47 3 (.slice Y F.length U) F.length xs:=Ox HR.o (fun g hg=>h1 g (HR.o.lt g hg).2 (fun e=>j8.o (hg.trans (congrArg some e))));have g5:Ey K fb m (Oq F):=o5.o.at_heap (h1 fb c8.o j3.o);have n2:O8 K (.slice pa f.args.length ca) f.args:=(k0.o.bl A.o).keep (j.keep HH.o.km);have O:Hid (w.heap.size+1<=K.heap.size):=by have:=j.size;have:=j9.o;unfold Hid;omega
 have f5:Hid (K.os=w.os/\K.tape=w.tape/\K.output=w.output):=⟨j.os.trans A.o.os,j.tape.trans A.o.tape,j.output.trans A.o.output⟩;have H1:=Hd h1;have j2:Hid (n'<=n+6/\VT (Og S) g'):=⟨n1,V.ok⟩;have HC:Hid (∀ W,Up K W->Bx W kb [.slice p0 S.length c0,.slice Y F.length U,vT,.map (some sb),.map (some fb),v5,.map (some gb)]/\Bx W w.heap.size [.string (Oo f.name),.slice pa f.args.length ca,.string (Oo f.sort)]/\W.ownsRow base 47 3 (.slice Y F.length U) F.length xs/\Ey W fb m (Oq F)/\KM W gb n' g'/\O8 W (.slice pa f.args.length ca) f.args):=fun W hW=>
  ⟨V.box.bl V.box.lt hW,g9.bl g9.lt hW,Ox g7 (fun g hg=>hW.block g (g7.lt g hg).2),g5.low hW g5.lt,V.km.low hW V.km.lt,n2.bl hW⟩
 clear g9 h1 g7 g5 n2 n1 V j b0 b1 b2;obtain⟨hA,hB,-,-,-,-⟩:=HC.o K (Jh _ _);obtain⟨a0,a1⟩:=hA.k2;clear hA hB
 go_wp2_with fail
 refine (Q3 kb p0 Y S.length c0 F.length U _ a0 a1 (by omega) (by omega)).mono ?_;rw[Jg (by omega)];rintro e w2 ⟨rfl,g4⟩;have e7:=Hd g4;obtain⟨hA,hB,-,-,-,hV⟩:=HC.o w2 g4;have p2:=Hd hV;clear a0 a1 g4 hV;have a1:=hA.cell 1;simp only[Jo,Jr] at a1;obtain⟨b0,b1,b2⟩:=hB.c3;clear hA hB
 go_wp2_with fail
 refine (Se f _ w2 p2.o hl hzn hzs hz).mono ?_;rintro e w3 ⟨p3,n3,c3,rfl,J,m8⟩;obtain⟨q5,p6,e3⟩:=En J;obtain rfl:n3=f.args.length:=by cases e3;rfl
 clear e3 q5 p6;have j4:=Hd (E7 J e7.o.size);have E:=Hd (e7.o.trans (m8.mono e7.o.size));clear J m8 a1 b0 b1 b2;obtain⟨hA,hB,-,-,-,-⟩:=HC.o w3 E.o;obtain⟨b0,b1,b2⟩:=hB.c3;obtain⟨f0,f1,f2⟩:=hB.f3;obtain⟨G,d6⟩:=O1 (((w3.setCell ⟨w.heap.size,0,none⟩ (.string (Oo f.name))).setCell ⟨w.heap.size,1,none⟩ (.slice p3 f.args.length c3)).setCell ⟨w.heap.size,2,none⟩ (.string (Oo f.sort)));have f9:=Hd d6;have m7:Bx G w.heap.size [.string (Oo f.name),.slice p3 f.args.length c3,.string (Oo f.sort)]:=by rw[<-d6];exact ((hB.set 0 _).set 1 _).set 2 _
 have g1:=Hd m7;have h4:∀ k,k≠w.heap.size->G.heap[k]? = w3.heap[k]? := fun k hk=>by rw[<-d6,Jq _ _ _ _ hk,Jq _ _ _ _ hk,Jq _ _ _ _ hk]
 have H4:=Hd h4;clear hA hB d6 m7 h4
 go_upto_region 1 with fail
 rw[f9.o];have d3:Hid (kb≠w.heap.size/\fb≠w.heap.size/\gb≠w.heap.size):=by have:=j1.o;have:=c8.o;have:=e8.o;unfold Hid;omega
 obtain⟨k9,-,l9,l5,l2,-⟩:=HC.o w3 E.o;have l0:Bx G kb [.slice p0 S.length c0,.slice Y F.length U,vT,.map (some sb),.map (some fb),v5,.map (some gb)]:=by
  obtain⟨ty,hh⟩:=k9;exact⟨ty,(H4.o kb d3.o.1).trans hh⟩
 have m5:G.ownsRow base 47 3 (.slice Y F.length U) F.length xs:=Ox l9 (fun k hk=>H4.o k (fun e=>by have:=(HR.o.lt k hk).2;omega));have p8:Ey G fb m (Oq F):=l5.at_heap (H4.o fb d3.o.2.1);have l3:KM G gb n' g':=l2.at_heap (H4.o gb d3.o.2.2);have l7:G.ownsRow K.heap.size 9 1 (.slice p3 f.args.length c3) f.args.length (U3 f.args):=Ox j4.o (fun k hk=>H4.o k (fun e=>by have:=Ot j4.o k hk;have:=O.o;omega));have e6:=Hd l0;have j5:=Hd m5;have j0:=Hd l3;have e9:=Hd l7;have p1:Hid (K.heap.size<=G.heap.size):=by have:=E.o.size;have e:=f9.o;unfold Hid;rw[<-e];simpa[World.setCell] using this
 have f8:Hid (G.os=w.os/\G.tape=w.tape/\G.output=w.output):=by
  have e:=f9.o;unfold Hid;rw[<-e];exact⟨E.o.os.trans f5.o.1,E.o.tape.trans f5.o.2.1,E.o.output.trans f5.o.2.2⟩
 obtain⟨D,g3,hD⟩:=p8;have n9:=Hd hD;have o2:=Hd g3.isMap;have d9:G.drew.ownsMap prog 9 (plainElem prog 3) fb m D:=by
  obtain⟨es,cl,hh,p9⟩:=g3;exact⟨es,cl,hh,p9⟩
 obtain⟨w5,g8,b7,e5⟩:=d9.update Il underlying86 (by unfold maxLen;omega) (N0 (Oo f.name) (by unfold maxLen;omega)) (plainElem_int underlying3 (VB (n:=F.length) (by omega)));have o8:=Hd b7;have b3:=Hd e5;have c4:=e6.o.cell 4;simp only[Jo,Jr] at c4;obtain⟨e0,e1,e2⟩:=g1.o.c3;clear k9 l9 l5 l2 l0 m5 l3 l7 hD g3 d9 b7 e5 b0 b1 b2 f0 f1 f2
 go_region
 clear g8 c4 e0 e1 e2;have I:∀ k,k<G.heap.size->k≠fb->w5.heap[k]? = G.heap[k]? := fun k hk hne=>b3.o.block k hk (fun e=>hne (Option.some.inj e));have i8:=Hd I;have d4:Bx w5 kb [.slice p0 S.length c0,.slice Y F.length U,vT,.map (some sb),.map (some fb),v5,.map (some gb)]:=by
  have b5:=e6.o.lt;obtain⟨ty,hh⟩:=e6.o;exact⟨ty,(I kb b5 (Ne.symm i6.o)).trans hh⟩
 have d7:Bx w5 w.heap.size [.string (Oo f.name),.slice p3 f.args.length c3,.string (Oo f.sort)]:=by
  have b5:=g1.o.lt;obtain⟨ty,hh⟩:=g1.o;exact⟨ty,(I w.heap.size b5 (Ne.symm d3.o.2.1)).trans hh⟩
 have m6:w5.ownsRow base 47 3 (.slice Y F.length U) F.length xs:=Ox j5.o (fun k hk=>I k (j5.o.lt k hk).2 (fun e=>j7.o (hk.trans (congrArg some e))));have l8:w5.ownsRow K.heap.size 9 1 (.slice p3 f.args.length c3) f.args.length (U3 f.args):=Ox e9.o (fun k hk=>I k (e9.o.lt k hk).2 (fun e=>by have:=Ot e9.o k hk;have:=O.o;have:=c8.o;omega));have l4:KM w5 gb n' g':=j0.o.at_heap (I gb j0.o.lt (Ne.symm j3.o));have l6:Ey w5 fb (m+1) (Oq (F++[f])):=by
  rw[Qh,Zc];refine Ey.put (L:=F.map Fn.name) (D:=D) (fun s=>?_) o2.o (s:=f.name) ?_ ?_
  ·have:=n9.o s;rw[Qh] at this;exact this
  ·have:=o6.o;rw[Qh] at this;exact this
  have:=o8.o;rw[Zv];exact this
 obtain⟨Z,hZ⟩:=O1 w5.heap.size;have s9:kb<Z:=by rw[<-hZ];exact d4.lt
 have t6:w.heap.size<Z:=by rw[<-hZ];exact d7.lt
 have r5:base<=Z:=by omega
 have t7:G.heap.size<=Z:=by rw[<-hZ];exact b3.o.size
 have k1:=d4.cell 1;simp only[Jo,Jr] at k1;obtain⟨x0,x1,x2⟩:=d7.c3;obtain⟨i0,m9,q2,q3,q4⟩:=S4;have o7:Hid (∀ i u,(Bm (f,.slice p3 f.args.length c3))[i]? = some u->((w5.alloc (.cells #[.string (Oo f.name),.slice p3 f.args.length c3,.string (Oo f.sort)] 47)).drew).cell? ((⟨Z,0,none⟩:Addr).add i)=some u):=by
  have h:=World.news_of_block (cs:=#[.string (Oo f.name),.slice p3 f.args.length c3,.string (Oo f.sort)]) (t:=47) (fr:=(0,0)) (heap_alloc_new w5 (.cells #[.string (Oo f.name),.slice p3 f.args.length c3,.string (Oo f.sort)] 47));rw[hZ] at h;exact h
 have l1:Bx (w5.alloc (.cells #[.string (Oo f.name),.slice p3 f.args.length c3,.string (Oo f.sort)] 47)).drew kb [.slice p0 S.length c0,.slice Y F.length U,vT,.map (some sb),.map (some fb),v5,.map (some gb)]:=(d4.alloc _).drew;have b9:=Hd l1;have j6:=Hd m6;have M:=Hd l8;have o3:=Hd l4;have o4:=Hd l6;have s0:=Hd d7;clear l1 m6 l8 l4 l6 d4 d7 I
 go_wp2
 go_region_law
  ((refine step_append_lies _ (by rfl) _ _ _ (by rfl) base 47 i0 _ 3 56 underlying29 m9 q2 q3 q4 rfl (by omega) (.slice Y F.length U) F.length xs (by rfl) ((j6.o.alloc _).drew)
     ⟨Z,0,none⟩ 1 1 (Bm (f,.slice p3 f.args.length c3)) (by rfl) (by rfl) o7.o (by simp[Bm,Value.oneCell'])
     (by omega) (by unfold maxLen;omega) (by omega) (by simp;omega) (Z+1) (by simp;omega) ?_;intro g6 c6 w6 b8 d e4 n0;have d1:=(d.cell_far ⟨kb,1,none⟩ (by simp;omega) (Ne.symm hrk)).trans (b9.o.cell 1);have d2:=(d.frozen_far ⟨kb,1,none⟩ (by simp;omega) (Ne.symm hrk)).trans (b9.o.fz 1);simp only[Jo,Jr] at d1))
 all_goals
  have h6:∀ k,k<Z->k≠kb->some k≠(Value.slice Y F.length U).ownBlock->(w6.setCell ⟨kb,1,none⟩ (.slice (some ⟨g6,0,none⟩) (F.length+1) c6)).heap[k]? = w5.heap[k]? := fun k hk h1 h2=>by
   rw[Jq _ _ _ _ h1,d.block k (by simp;omega) h2];exact (Oy w5 _).block k (by omega)
  have n4:Bx w6 kb [.slice p0 S.length c0,.slice Y F.length U,vT,.map (some sb),.map (some fb),v5,.map (some gb)]:=by
   have b5:=b9.o.lt;obtain⟨ty,hh⟩:=b9.o;exact⟨ty,(d.block kb b5 (Ne.symm hrk)).trans hh⟩
  have b6:g6≠kb:=fun e=>by
   rcases e4 with h|h
   ·exact hrk (h.trans (congrArg some e))
   omega
  have HE:Hid (AddedF base kb sb fb gb n m S F f (.slice p0 S.length c0) (.slice Y F.length U) vT v5 xs w (w6.setCell ⟨kb,1,none⟩ (.slice (some ⟨g6,0,none⟩) (F.length+1) c6))):=by
   refine⟨⟨_,.slice p3 f.args.length c3,n4.set 1 _,Ox b8 (fun k hk=>Jq _ _ _ _ (fun e=>b6 ((Option.some.inj hk).trans e))),?_,fun e=>b6 (Option.some.inj e)⟩,o4.o.at_heap (h6 fb (by have:=c8.o;omega) i6.o (Ne.symm j7.o)),⟨n',g',j2.o.1,o3.o.at_heap (h6 gb (by have:=e8.o;omega) (Ne.symm o1.o) (Ne.symm j8.o)),j2.o.2⟩,?_,?_,?_,?_,?_⟩
   ·refine E7 (Ox M.o (fun k hk=>h6 k (by have:=(M.o.lt k hk).2;omega) (fun e=>by have:=Ot M.o k hk;have:=O.o;have:=j1.o;omega) (fun e=>?_))) (by have:=O.o;omega);obtain⟨cs,fz,h1⟩:=Kt M.o k hk;obtain⟨s2,s8,h2⟩:=Kt j6.o k e.symm;rw[h1] at h2;cases h2
   ·exact d.os.trans (b3.o.os.trans f8.o.1)
   ·exact d.tape.trans (b3.o.tape.trans f8.o.2.1)
   ·exact d.output.trans (b3.o.output.trans f8.o.2.2)
   ·have h1:=d.size;have h2:Z<=w6.heap.size:=by simp at h1;omega
    simp only[World.setCell,Z1];omega
   intro k hk h1 h2 h3 h4;rw[h6 k (by omega) h1 (Ne.symm h4),i8.o k (by have:=p1.o;have:=O.o;omega) h2,H4.o k (by omega),E.o.block k (by have:=O.o;omega),H1.o k hk h3]
  clear h6 n4 b6 b8 d e4 n0 d1 d2 k1 x0 x1 x2
  go_wp2_with fail
  refine Jj (v:=.tuple #[.int .i64 (F.length:Nat),.int .i64 0]) ?_ rfl ⟨rfl,HE.o⟩;simp[results,results59,go_sem]
theorem Bx.cs6 {W:World}{g:Nat}{a b c d e f:Value}(h:Bx W g [a,b,c,d,e,f]):W.cell? ⟨g,0,none⟩=some a/\W.cell? ⟨g,1,none⟩=some b/\W.cell? ⟨g,2,none⟩=some c/\W.cell? ⟨g,3,none⟩=some d/\W.cell? ⟨g,4,none⟩=some e/\W.cell? ⟨g,5,none⟩=some f:=
 ⟨h.cell 0,h.cell 1,h.cell 2,h.cell 3,h.cell 4,h.cell 5⟩
theorem Es.at_heap {w w':World}{b n:Nat}{T:List Tm}(h:Es w b n T)(e:w'.heap[b]? = w.heap[b]?):Es w' b n T:=by
 obtain⟨D,⟨j,d,G,E⟩,A⟩:=h;exact⟨D,⟨j,d,e.trans G,E⟩,A⟩
theorem Es.lt {w:World}{b n:Nat}{T:List Tm}(h:Es w b n T):b<w.heap.size:=by
 obtain⟨D,⟨A,j,d,G⟩,E⟩:=h;exact (J1.1 d).1
theorem X6 {w:World}{base e size n:Nat}{v:Value}{xs:List Value}{b m:Nat}{T:List Tm}(h:w.ownsRow base e size v n xs)(hm:Es w b m T):v.ownBlock≠some b:=fun e'=>by
 obtain⟨cs,fz,j⟩:=Kt h b e'
 obtain⟨D,⟨E,A,d,_⟩,_⟩:=hm
 rw[j] at d
 cases d
theorem Ac {w:World}{b m g:Nat}{T:List Tm}{l:List Value}(hm:Es w b m T)(h:Bx w g l):b≠g:=by
 rintro rfl;obtain⟨E,h⟩:=h;obtain⟨D,⟨A,j,d,_⟩,_⟩:=hm;rw[h] at d
 cases d
structure AddedT (base kb sb fb gb tb n m:Nat)(S:List (List UInt8))(T:List Tm)(t:Tm)(vS vF vT:Value)(xs:List Value)(w w':World):Prop where
 row:∃ v1 va,Bx w' kb [vS,vF,v1,.map (some sb),.map (some fb),.map (some tb),.map (some gb)]/\w'.ownsRow base 57 6 v1 (T.length+1) (xs++Pn (t,va))/\w'.ownsRow w.heap.size 3 1 va t.kids.length (G8 t.kids)/\v1.ownBlock≠some kb
 terms:Es w' tb (m+1) (T++[t])
 kinds:∃ n' g',n'<=n+60/\KM w' gb n' g'/\VT (Og S) g'
 os:w'.os=w.os
 tape:w'.tape=w.tape
 output:w'.output=w.output
 size:w.heap.size<=w'.heap.size
 block:∀ k,k<w.heap.size->k≠kb->k≠tb->k≠gb->vT.ownBlock≠some k->w'.heap[k]? = w.heap[k]?
theorem A3 {w:World}{kb sb fb gb tb n nT:Nat}{S:List (List UInt8)}{F:List Fn}{T:List Tm}{vS vF vT:Value}{g:List UInt8->Option SI}(h:BK w kb sb fb gb n S F T vS vF vT (.map (some tb)) g)(htm:Es w tb nT T)(hnT:nT<=1000000)(hne:tb≠gb)(base:Nat)(xs:List Value)
 (hrow:w.ownsRow base 57 6 vT T.length xs) (hrk:vT.ownBlock≠some kb) (hb:base<=w.heap.size) (t:Tm) (vk:Value) (hk:U5 w vk t.kids) (num:Tm->Bool) (hT:T.length<3000) (hF:F.length<=1000) (hz:∀ u∈T,u.sort.length<=1048576) (hn:n<=800000000) (hwf:WfT t)
 (hnum:t.op=12->((Ov (Oh (Og S)) t.sort).kind=2∨(Ov (Oh (Og S)) t.sort).kind=3)->∀ W,Bar gb w W->Calls prog 118 #[.string (Oo t.sort),.string (Oo t.text)] W fun e w'=>e=.returned (.bool (num t))/\Up W w') (hyes:Gi (Ov (Oh (Og S))) num F (Oq F) T t=true) (hj:Ij T t=none) :
 Calls prog 61 #[.pointer (some ⟨kb,0,none⟩),Ie t vk] w fun e w'=>e=.returned (.tuple #[.int .i64 (T.length:Nat),.int .i64 0])/\AddedT base kb sb fb gb tb n nT S T t vS vF vT xs w w':=by
 have HI:=Hd hk;obtain⟨qk,dk,rfl,v7,v8,-⟩:=hk;obtain⟨q0,d0,rfl⟩:=En hrow;have HH:=Hd h;obtain⟨W0,e4⟩:=O1 (w.alloc (.cells #[.int .i64 t.op,.string (Oo t.sort),.string (Oo t.text),.int .i64 t.a,.int .i64 t.b,.slice qk t.kids.length dk] 57));have s6:=Hd e4;have HB:Hid (Up w W0):=by unfold Hid;rw[<-e4];exact Oy _ _
 have n7:Hid (W0.heap.size=w.heap.size+1):=by unfold Hid;rw[<-e4];simp
 have r3:Hid (Bx W0 w.heap.size [.int .i64 t.op,.string (Oo t.sort),.string (Oo t.text),.int .i64 t.a,.int .i64 t.b,.slice qk t.kids.length dk]):=by unfold Hid;rw[<-e4];exact Oi _ _ _
 have k7:=Hd (Xp (h.next HB.o) t (.slice qk t.kids.length dk) (HI.o.bl HB.o) num (by omega) (by have:=hwf.kids;omega) hF hz hwf.sort hwf.text hn (fun h12 hk W hW=>hnum h12 hk W ((Bar.of HB.o).trans hW)));have s5:=Hd htm;have HR:=Hd hrow;have K:=Hd hwf;have HJ:=Hd hj;have g6:=Hd h.km.lt;have k8:=Hd h.box.lt;have e2:=Hd htm.lt;have r5:Hid (kb≠gb):=Tz h.km (h.box.cell 0);have n8:Hid (tb≠kb):=Ac htm h.box;have n4:=Hd (Pj hrow h.km);have n5:=Hd (X6 hrow htm);clear h hz hnum v7 v8 htm hj e4 hrow;rw[hyes] at k7;unfold Ie at k7 ⊢
 go_in
 go_wp2_with fail
 rw[s6.o];refine k7.o.mono ?_;rintro e w2 ⟨rfl,n2,g2,D1,e5,j⟩;have q1:=j.keep (HH.o.next HB.o).km;have m7:=Hd ((HI.o.bl HB.o).keep q1);have h1:∀ k,k<w.heap.size->k≠gb->w2.heap[k]? = w.heap[k]? := fun k hk hne=>(j.block k (by have:=n7.o;omega) hne).trans (HB.o.block k hk);have H1:=Hd h1;have a7:=Hd e5;have m8:Hid (n2<=n+60/\VT (Og S) g2):=⟨by omega,e5.ok⟩;have j0:=Hd (s5.o.at_heap (h1 tb e2.o hne));have n0:Hid (w2.ownsRow base 57 6 (.slice q0 T.length d0) T.length xs):=Ox HR.o (fun g hg=>h1 g (HR.o.lt g hg).2 (fun e=>n4.o (hg.trans (congrArg some e))));have d9:Hid (Bx w2 w.heap.size [.int .i64 t.op,.string (Oo t.sort),.string (Oo t.text),.int .i64 t.a,.int .i64 t.b,.slice qk t.kids.length dk]):=r3.o.bar j (by have:=g6.o;omega);have J:Hid (w.heap.size+1<=w2.heap.size):=by have:=j.size;have:=n7.o;unfold Hid;omega
 have l1:Hid (w2.os=w.os/\w2.tape=w.tape/\w2.output=w.output):=⟨j.os.trans HB.o.os,j.tape.trans HB.o.tape,j.output.trans HB.o.output⟩;obtain⟨a0,a1,a2,a3,a4,a5⟩:=d9.o.cs6;clear q1 e5 j h1
 go_wp2_with fail
 refine (Mr t (.slice qk t.kids.length dk) w2 m7.o K.o.kid K.o.kids).mono ?_;rintro e w3 ⟨rfl,h9⟩;have l9:Up w2 (w3.alloc (.cells #[.int .i64 t.op,.string (Oo t.sort),.string (Oo t.text),.int .i64 t.a,.int .i64 t.b,.string (Oo (K2 t.kids))] 115)):=h9.alloc h9.size _;have i8:=Oi w3 [.int .i64 t.op,.string (Oo t.sort),.string (Oo t.text),.int .i64 t.a,.int .i64 t.b,.string (Oo (K2 t.kids))] 115;have u8:w2.heap.size<=w3.heap.size:=h9.size;clear a0 a1 a2 a3 a4 a5 h9
 go_wp2_with fail
 generalize w3.heap.size=A at i8 u8 ⊢;generalize w3.alloc (.cells #[.int .i64 t.op,.string (Oo t.sort),.string (Oo t.text),.int .i64 t.a,.int .i64 t.b,.string (Oo (K2 t.kids))] 115)=W4 at l9 i8 ⊢;have G:=Hd l9;have l4:=Hd i8;have HC:Hid (∀ W,Up W4 W->Bx W kb [vS,vF,.slice q0 T.length d0,.map (some sb),.map (some fb),.map (some tb),.map (some gb)]/\Bx W w.heap.size [.int .i64 t.op,.string (Oo t.sort),.string (Oo t.text),.int .i64 t.a,.int .i64 t.b,.slice qk t.kids.length dk]/\Bx W A [.int .i64 t.op,.string (Oo t.sort),.string (Oo t.text),.int .i64 t.a,.int .i64 t.b,.string (Oo (K2 t.kids))]/\W.ownsRow base 57 6 (.slice q0 T.length d0) T.length xs/\Es W tb nT T/\KM W gb n2 g2/\U5 W (.slice qk t.kids.length dk) t.kids):=fun W hW=>by
  have b9:Up w2 W:=G.o.trans (hW.mono G.o.size);exact⟨a7.o.box.bl a7.o.box.lt b9,d9.o.bl d9.o.lt b9,l4.o.bl l4.o.lt hW,Ox n0.o (fun g hg=>b9.block g (n0.o.lt g hg).2),j0.o.low b9 j0.o.lt,a7.o.km.low b9 a7.o.km.lt,m7.o.bl b9⟩
 obtain⟨hA,hB,hK,-,p7,-,-⟩:=HC.o W4.drew (Jh _ _).drew;obtain⟨c,hc,i7⟩:=Bo p7 K.o;rw[HJ.o] at i7;simp only[Option.isSome_none] at i7;unfold Bj at i7;obtain⟨hA,hB,hK,-,-,-,-⟩:=HC.o W4 (Jh _ _);have a5:=hA.c7.2.2.2.2.2.1;have a2:=hA.c7.2.2.1;obtain⟨k0,k1,k2,k3,k4,k5⟩:=hK.cs6;clear hA hB hK p7 hc l9 i8
 go_region
 clear i7 k0 k1 k2 k3 k4 k5;obtain⟨hA,hB,hK,-,-,-,hI⟩:=HC.o W4.drew (Jh _ _).drew;obtain⟨b0,b1,b2,b3,b4,b5⟩:=HC.o W4 (Jh _ _) |>.2.1.cs6;have r7:=Hd hI;clear hA hB hK hI;have z1:decide ((3000:Int)<=(T.length:Int))=false:=dF (by omega)
 go_wp2_with fail
 have j9:=Hd (Br t (.slice qk t.kids.length dk) W4.drew r7.o (by have:=K.o.kids;omega) K.o.sort K.o.text);unfold Ie at j9;refine j9.o.mono ?_;rintro e w6 ⟨O,n6,M,rfl,Y,d4⟩;obtain⟨w1,t8,e6⟩:=En Y;obtain rfl:n6=t.kids.length:=by cases e6;rfl
 clear e6 w1 t8 j9 a2 a5 b0 b1 b2 b3 b4 b5;have I:Hid (Up W4 w6):=⟨d4.os,d4.tape,d4.output,d4.size,d4.block⟩;have k9:Hid (w6.ownsRow W4.heap.size 3 1 (.slice O t.kids.length M) t.kids.length (G8 t.kids)):=Y;clear Y d4;obtain⟨-,hB,-,-,-,-,-⟩:=HC.o w6 I.o;obtain⟨b0,b1,b2,b3,b4,b5⟩:=hB.cs6;obtain⟨f0,f1,f2,f3,f4,f5⟩:=hB.f6;obtain⟨W7,c8⟩:=O1 ((((((w6.setCell ⟨w.heap.size,0,none⟩ (.int .i64 t.op)).setCell ⟨w.heap.size,1,none⟩ (.string (Oo t.sort))).setCell ⟨w.heap.size,2,none⟩ (.string (Oo t.text))).setCell ⟨w.heap.size,3,none⟩ (.int .i64 t.a)).setCell ⟨w.heap.size,4,none⟩ (.int .i64 t.b)).setCell ⟨w.heap.size,5,none⟩ (.slice O t.kids.length M));have s7:=Hd c8;have n9:Hid (Bx W7 w.heap.size [.int .i64 t.op,.string (Oo t.sort),.string (Oo t.text),.int .i64 t.a,.int .i64 t.b,.slice O t.kids.length M]):=by unfold Hid;rw[<-c8];exact (((((hB.set 0 (.int .i64 t.op)).set 1 (.string (Oo t.sort))).set 2 (.string (Oo t.text))).set 3 (.int .i64 t.a)).set 4 (.int .i64 t.b)).set 5 (.slice O t.kids.length M)
 have h7:∀ k,k≠w.heap.size->W7.heap[k]? = w6.heap[k]? := fun k hk=>by rw[<-c8,Jq _ _ _ _ hk,Jq _ _ _ _ hk,Jq _ _ _ _ hk,Jq _ _ _ _ hk,Jq _ _ _ _ hk,Jq _ _ _ _ hk]
 have H7:=Hd h7;have s4:Hid (W7.heap.size=w6.heap.size):=by unfold Hid;rw[<-c8];simp[World.setCell]
 have i1:Below w.heap.size w6 W7:=by rw[<-c8];exact ((((((Jh w.heap.size w6).setCell (p:=⟨w.heap.size,0,none⟩) Of (.int .i64 t.op)).setCell (p:=⟨w.heap.size,1,none⟩) Of (.string (Oo t.sort))).setCell (p:=⟨w.heap.size,2,none⟩) Of (.string (Oo t.text))).setCell (p:=⟨w.heap.size,3,none⟩) Of (.int .i64 t.a)).setCell (p:=⟨w.heap.size,4,none⟩) Of (.int .i64 t.b)).setCell (p:=⟨w.heap.size,5,none⟩) Of (.slice O t.kids.length M)
 have l2:Hid (W7.os=w6.os/\W7.tape=w6.tape/\W7.output=w6.output):=⟨i1.os,i1.tape,i1.output⟩;clear i1;clear hB c8 h7
 go_upto_region 1 with fail
 rw[s7.o];clear b0 b1 b2 b3 b4 b5 f0 f1 f2 f3 f4 f5;have e1:Hid (A≠w.heap.size/\kb≠w.heap.size/\tb≠w.heap.size/\gb≠w.heap.size):=by have:=k8.o;have:=e2.o;have:=g6.o;have:=J.o;unfold Hid;omega
 have e3:Bx W7 A [.int .i64 t.op,.string (Oo t.sort),.string (Oo t.text),.int .i64 t.a,.int .i64 t.b,.string (Oo (K2 t.kids))]:=by
  obtain⟨-,-,hK,-,-,-,-⟩:=HC.o w6 I.o;obtain⟨ty,hh⟩:=hK;exact⟨ty,(H7.o A e1.o.1).trans hh⟩
 have r9:=Hd e3;obtain⟨t0,t1,t2,t3,t4,t5⟩:=n9.o.cs6;obtain⟨k0,k1,k2,k3,k4,k5⟩:=e3.cs6;have g1:=e3.fz 1;have g2:=e3.fz 2;clear e3
 go_region
 clear t0 t1 t2 t3 t4 t5 k0 k1 k2 k3 k4 k5 g1 g2
 go_upto_region 1 with fail
 obtain⟨E,d3⟩:=O1 (((W7.setCell ⟨A,1,none⟩ (.string (Oo t.sort))).setCell ⟨A,2,none⟩ (.string (Oo t.text))).drew);rw[d3];have i6:Below A W7 E:=by rw[<-d3];exact (((Jh A W7).setCell (p:=⟨A,1,none⟩) Of (.string (Oo t.sort))).setCell (p:=⟨A,2,none⟩) Of (.string (Oo t.text))).drew
 have h8:∀ k,k≠A->E.heap[k]? = W7.heap[k]? := fun k hk=>by
  rw[<-d3]
  show ((W7.setCell ⟨A,1,none⟩ (.string (Oo t.sort))).setCell ⟨A,2,none⟩ (.string (Oo t.text))).heap[k]? = _
  rw[Jq _ ⟨A,2,none⟩ _ _ hk,Jq _ ⟨A,1,none⟩ _ _ hk]
 have p8:Bx E A [.int .i64 t.op,.string (Oo t.sort),.string (Oo t.text),.int .i64 t.a,.int .i64 t.b,.string (Oo (K2 t.kids))]:=by rw[<-d3];exact ((r9.o.set 1 (.string (Oo t.sort))).set 2 (.string (Oo t.text))).drew
 have u6:E.heap.size=W7.heap.size:=by rw[<-d3];simp[World.setCell]
 clear d3;have U:∀ k,k≠A->k≠w.heap.size->E.heap[k]? = w6.heap[k]? := fun k hk hk2=>(h8 k hk).trans (H7.o k hk2);have g7:Hid (kb≠A/\tb≠A/\gb≠A/\w.heap.size≠A):=by have:=k8.o;have:=e2.o;have:=g6.o;have:=J.o;unfold Hid;omega
 obtain⟨o2,-,-,p2,o8,o5,-⟩:=HC.o w6 I.o;have o3:Bx E kb [vS,vF,.slice q0 T.length d0,.map (some sb),.map (some fb),.map (some tb),.map (some gb)]:=by
  obtain⟨ty,hh⟩:=o2;exact⟨ty,(U kb g7.o.1 e1.o.2.1).trans hh⟩
 have p5:Bx E w.heap.size [.int .i64 t.op,.string (Oo t.sort),.string (Oo t.text),.int .i64 t.a,.int .i64 t.b,.slice O t.kids.length M]:=by
  obtain⟨ty,hh⟩:=n9.o;exact⟨ty,(h8 _ g7.o.2.2.2).trans hh⟩
 have p3:E.ownsRow base 57 6 (.slice q0 T.length d0) T.length xs:=Ox p2 (fun k hk=>U k (fun e=>by have:=(HR.o.lt k hk).2;have:=J.o;omega) (fun e=>by have:=(HR.o.lt k hk).2;omega));have u2:Es E tb nT T:=o8.at_heap (U tb g7.o.2.1 e1.o.2.2.1);have o6:KM E gb n2 g2:=o5.at_heap (U gb g7.o.2.2.1 e1.o.2.2.2);have B2:A<W4.heap.size:=l4.o.lt;have p0:E.ownsRow W4.heap.size 3 1 (.slice O t.kids.length M) t.kids.length (G8 t.kids):=Ox k9.o (fun k hk=>U k (fun e=>by have:=Ot k9.o k hk;omega) (fun e=>by have:=Ot k9.o k hk;have:=J.o;have:=G.o.size;omega));have r6:Hid (∀ k,k<w.heap.size->k≠gb->E.heap[k]? = w.heap[k]?):=fun k hk hne=>by rw[U k (by have:=J.o;omega) (by omega),I.o.block k (by have:=J.o;have:=G.o.size;omega),G.o.block k (by have:=J.o;omega),H1.o k hk hne]
 have l3:Hid (E.os=w.os/\E.tape=w.tape/\E.output=w.output):=
  ⟨i6.os.trans (l2.o.1.trans (I.o.os.trans (G.o.os.trans l1.o.1))),i6.tape.trans (l2.o.2.1.trans (I.o.tape.trans (G.o.tape.trans l1.o.2.1))),i6.output.trans (l2.o.2.2.trans (I.o.output.trans (G.o.output.trans l1.o.2.2)))⟩
 have g8:Hid (W4.heap.size<=E.heap.size/\w.heap.size+1<=W4.heap.size):=by have:=s4.o;have:=I.o.size;have:=J.o;have:=G.o.size;unfold Hid;omega
 have j7:=Hd o3;have n1:=Hd p3;have m9:=Hd o6;have l0:=Hd p0;have o0:=Hd p5;obtain⟨D,l7,hD⟩:=u2;have r4:=Hd hD;have r8:=Hd l7.isMap;have j2:E.drew.ownsMap prog 115 (plainElem prog 3) tb nT D:=by
  obtain⟨es,cl,hh,u7⟩:=l7;exact⟨es,cl,hh,u7⟩
 obtain⟨w9,f9,e9,j4⟩:=j2.update UB underlying87 (by unfold maxLen;omega) (H5 K.o) (plainElem_int underlying3 (VB (n:=T.length) (by omega)));unfold Bj at f9;have s3:=Hd e9;have e0:=Hd j4;have c5:=j7.o.cell 5;simp only[Jo,Jr] at c5;obtain⟨k0,k1,k2,k3,k4,k5⟩:=p8.cs6;clear i6 h8 p8 u6 U o2 p2 o8 o5 o3 p5 p3 o6 p0 hD l7 j2 e9 j4
 go_region
 clear f9 c5 k0 k1 k2 k3 k4 k5;have V:∀ k,k<E.heap.size->k≠tb->w9.heap[k]? = E.heap[k]? := fun k hk hne=>e0.o.block k hk (fun e=>hne (Option.some.inj e));have m6:=Hd V;have g9:Bx w9 kb [vS,vF,.slice q0 T.length d0,.map (some sb),.map (some fb),.map (some tb),.map (some gb)]:=by
  have e7:=j7.o.lt;obtain⟨ty,hh⟩:=j7.o;exact⟨ty,(V kb e7 (Ne.symm n8.o)).trans hh⟩
 have l8:Bx w9 w.heap.size [.int .i64 t.op,.string (Oo t.sort),.string (Oo t.text),.int .i64 t.a,.int .i64 t.b,.slice O t.kids.length M]:=by
  have e7:=o0.o.lt;obtain⟨ty,hh⟩:=o0.o;exact⟨ty,(V w.heap.size e7 (Ne.symm e1.o.2.2.1)).trans hh⟩
 have p4:w9.ownsRow base 57 6 (.slice q0 T.length d0) T.length xs:=Ox n1.o (fun k hk=>V k (n1.o.lt k hk).2 (fun e=>n5.o (hk.trans (congrArg some e))));have p1:w9.ownsRow W4.heap.size 3 1 (.slice O t.kids.length M) t.kids.length (G8 t.kids):=Ox l0.o (fun k hk=>V k (l0.o.lt k hk).2 (fun e=>by have:=Ot l0.o k hk;have:=g8.o;have:=e2.o;omega));have o7:KM w9 gb n2 g2:=m9.o.at_heap (V gb m9.o.lt (Ne.symm hne));have o9:Es w9 tb (nT+1) (T++[t]):=Es.put r4.o r8.o K.o HJ.o s3.o;obtain⟨Z,hZ⟩:=O1 w9.heap.size;have D0:kb<Z:=by rw[<-hZ];exact g9.lt
 have D2:w.heap.size<Z:=by rw[<-hZ];exact l8.lt
 have y2:base<=Z:=by omega
 have F2:E.heap.size<=Z:=by rw[<-hZ];exact e0.o.size
 have k1:=g9.cell 2;simp only[Jo,Jr] at k1;obtain⟨x0,x1,x2,x3,x4,x5⟩:=l8.cs6;obtain⟨i0,p9,u9,v1,v6⟩:=Pp;have s2:Hid (∀ i u,(Pn (t,.slice O t.kids.length M))[i]? = some u->((w9.alloc (.cells #[.int .i64 t.op,.string (Oo t.sort),.string (Oo t.text),.int .i64 t.a,.int .i64 t.b,.slice O t.kids.length M] 57)).drew).cell? ((⟨Z,0,none⟩:Addr).add i)=some u):=by
  have h:=World.news_of_block (cs:=#[.int .i64 t.op,.string (Oo t.sort),.string (Oo t.text),.int .i64 t.a,.int .i64 t.b,.slice O t.kids.length M]) (t:=57) (fr:=(0,0)) (heap_alloc_new w9 (.cells #[.int .i64 t.op,.string (Oo t.sort),.string (Oo t.text),.int .i64 t.a,.int .i64 t.b,.slice O t.kids.length M] 57));rw[hZ] at h;exact h
 have o4:Bx (w9.alloc (.cells #[.int .i64 t.op,.string (Oo t.sort),.string (Oo t.text),.int .i64 t.a,.int .i64 t.b,.slice O t.kids.length M] 57)).drew kb [vS,vF,.slice q0 T.length d0,.map (some sb),.map (some fb),.map (some tb),.map (some gb)]:=(g9.alloc _).drew;have g4:=Hd o4;have n3:=Hd p4;have a8:=Hd p1;have s0:=Hd o7;have s1:=Hd o9;clear o4 p4 p1 o7 o9 g9 l8 V
 go_wp2
 go_region_law
  ((refine step_append_lies _ (by rfl) _ _ _ (by rfl) base 57 i0 _ 6 80 underlying30 p9 u9 v1 v6 rfl (by omega) (.slice q0 T.length d0) T.length xs (by rfl) ((n3.o.alloc _).drew)
     ⟨Z,0,none⟩ 1 1 (Pn (t,.slice O t.kids.length M)) (by rfl) (by rfl) s2.o (by simp[Pn,Value.oneCell'])
     (by omega) (by unfold maxLen;omega) (by omega) (by simp;omega) (Z+1) (by simp;omega) ?_;intro ga ca wa f8 d j3 q2;have d1:=(d.cell_far ⟨kb,2,none⟩ (by simp;omega) (Ne.symm hrk)).trans (g4.o.cell 2);have d2:=(d.frozen_far ⟨kb,2,none⟩ (by simp;omega) (Ne.symm hrk)).trans (g4.o.fz 2);simp only[Jo,Jr] at d1))
 all_goals
  have h6:∀ k,k<Z->k≠kb->some k≠(Value.slice q0 T.length d0).ownBlock->(wa.setCell ⟨kb,2,none⟩ (.slice (some ⟨ga,0,none⟩) (T.length+1) ca)).heap[k]? = w9.heap[k]? := fun k hk h1 h2=>by
   rw[Jq _ _ _ _ h1,d.block k (by simp;omega) h2];exact (Oy w9 _).block k (by omega)
  have q3:Bx wa kb [vS,vF,.slice q0 T.length d0,.map (some sb),.map (some fb),.map (some tb),.map (some gb)]:=by
   have e7:=g4.o.lt;obtain⟨ty,hh⟩:=g4.o;exact⟨ty,(d.block kb e7 (Ne.symm hrk)).trans hh⟩
  have e8:ga≠kb:=fun e=>by
   rcases j3 with h|h
   ·exact hrk (h.trans (congrArg some e))
   omega
  have HE:Hid (AddedT base kb sb fb gb tb n nT S T t vS vF (.slice q0 T.length d0) xs w (wa.setCell ⟨kb,2,none⟩ (.slice (some ⟨ga,0,none⟩) (T.length+1) ca))):=by
   refine⟨⟨_,.slice O t.kids.length M,q3.set 2 _,Ox f8 (fun k hk=>Jq _ _ _ _ (fun e=>e8 ((Option.some.inj hk).trans e))),?_,fun e=>e8 (Option.some.inj e)⟩,s1.o.at_heap (h6 tb (by have:=e2.o;omega) n8.o (Ne.symm n5.o)),⟨n2,g2,m8.o.1,s0.o.at_heap (h6 gb (by have:=g6.o;omega) (Ne.symm r5.o) (Ne.symm n4.o)),m8.o.2⟩,?_,?_,?_,?_,?_⟩
   ·refine E7 (Ox a8.o (fun k hk=>h6 k (by have:=(a8.o.lt k hk).2;omega) (fun e=>by have:=Ot a8.o k hk;have:=g8.o;have:=k8.o;omega) (fun e=>?_))) (by have:=g8.o;omega);obtain⟨cs,fz,h1⟩:=Kt a8.o k hk;obtain⟨y7,z7,h2⟩:=Kt n3.o k e.symm;rw[h1] at h2;cases h2
   ·exact d.os.trans (e0.o.os.trans l3.o.1)
   ·exact d.tape.trans (e0.o.tape.trans l3.o.2.1)
   ·exact d.output.trans (e0.o.output.trans l3.o.2.2)
   ·have h1:=d.size;have h2:Z<=wa.heap.size:=by simp at h1;omega
    simp only[World.setCell,Z1];omega
   intro k hk h1 h2 h3 h4;rw[h6 k (by omega) h1 (Ne.symm h4),m6.o k (by have:=g8.o;omega) h2,r6.o k hk h3]
  clear h6 q3 e8 f8 d j3 q2 d1 d2 k1 x0 x1 x2 x3 x4 x5
  go_wp2_with fail
  refine Jj (v:=.tuple #[.int .i64 (T.length:Nat),.int .i64 0]) ?_ rfl ⟨rfl,HE.o⟩;simp[results,results61,go_sem]
end Go.Proofs.YtipgjenolpofpaaGreatDoor
namespace Go.Proofs.YtipgjenolpofpaaGreatDoor
open ChangeShapes WideShapes ChangeAt RowKit
structure BookS (w0:World)(kb sb fb tb gb nS:Nat)(S:List (List UInt8))(vS vT:Value)(W:World):Prop where
 low:Up w0 W
 ids:w0.heap.size<=kb/\w0.heap.size<=sb/\w0.heap.size<=fb/\w0.heap.size<=tb/\w0.heap.size<=gb
 ne:sb≠fb/\sb≠tb/\sb≠gb/\fb≠tb/\fb≠gb/\tb≠gb
 box:Bx W kb [vS,.slice none 0 0,vT,.map (some sb),.map (some fb),.map (some tb),.map (some gb)]
 sr:W.ownsRow (kb+1) 9 1 vS S.length (U3 S)
 tr:Ha W (kb+1) vT []
 sm:Ey W sb nS (Og S)
 fm:Ey W fb 0 (Oq [])
 tm:Es W tb 0 []
 km:KM W gb 0 (fun _=>none)
structure Book (w0:World)(kb sb fb tb gb n nS nF nT:Nat)(S:List (List UInt8))(F:List Fn)(T:List Tm)(vS vF vT:Value)(bF:Nat)(W:World):Prop where
 low:Up w0 W
 ids:w0.heap.size<=kb/\w0.heap.size<=sb/\w0.heap.size<=fb/\w0.heap.size<=tb/\w0.heap.size<=gb
 ne:sb≠fb/\sb≠tb/\sb≠gb/\fb≠tb/\fb≠gb/\tb≠gb
 box:Bx W kb [vS,vF,vT,.map (some sb),.map (some fb),.map (some tb),.map (some gb)]
 sr:W.ownsRow (kb+1) 9 1 vS S.length (U3 S)
 fr:Qu W bF vF F
 tr:Ha W (kb+1) vT T
 far:kb<bF/\bF<=W.heap.size/\∀ g,vS.ownBlock=some g->g<bF
 sm:Ey W sb nS (Og S)
 fm:Ey W fb nF (Oq F)
 tm:Es W tb nT T
 km:∃ g,KM W gb n g/\VT (Og S) g
theorem Ey.no_cells {w:World}{b n:Nat}{f:List UInt8->Option Nat}(h:Ey w b n f){cs:Array Value}{t:TypeId}{fz:Nat×Nat}:w.heap[b]? ≠ some (.cells cs t fz):=fun e=>by
 obtain⟨D,⟨A,j,d,_⟩,_⟩:=h
 rw[d] at e
 cases e
theorem KM.no_cells {w:World}{b n:Nat}{g:List UInt8->Option SI}(h:KM w b n g){cs:Array Value}{t:TypeId}{fz:Nat×Nat}:w.heap[b]? ≠ some (.cells cs t fz):=fun e=>by
 obtain⟨D,⟨A,j,d,_⟩,_⟩:=h
 rw[d] at e
 cases e
theorem Es.no_cells {w:World}{b n:Nat}{T:List Tm}(h:Es w b n T){cs:Array Value}{t:TypeId}{fz:Nat×Nat}:w.heap[b]? ≠ some (.cells cs t fz):=fun e=>by
 obtain⟨D,⟨A,j,d,_⟩,_⟩:=h
 rw[d] at e
 cases e
theorem Bx.no_smap {w:World}{b n g:Nat}{f:List UInt8->Option Nat}{l:List Value}(h:Ey w b n f)(hx:Bx w g l):b≠g:=by
 rintro rfl;obtain⟨t,hx⟩:=hx;exact h.no_cells hx
theorem R9 {w:World}{base e e' size n:Nat}{v:Value}{xs:List Value}(h:w.ownsRow base e size v n xs){k:Nat}{cs:Array Value}{fz:Nat×Nat}(hk:w.heap[k]? = some (.cells cs e' fz))(he:e≠e'):v.ownBlock≠some k:=fun e1=>by
 obtain⟨c,f,d⟩:=Kt h k e1
 rw[d] at hk
 cases hk
 exact he rfl
theorem BookS.add {w0:World}{kb sb fb tb gb nS:Nat}{S M:List (List UInt8)}{vS vT:Value}{W W':World}(h:BookS w0 kb sb fb tb gb nS S vS vT W)(ha:AddedS (kb+1) kb sb fb nS S M vS vT (.map (some tb)) (.map (some gb)) none 0 0 W W'):∃ vS',BookS w0 kb sb fb tb gb (nS+1) M vS' vT W':=by
 obtain⟨G,E,A,_⟩:=ha.row;have hb:∀ k,k<W.heap.size->k≠kb->k≠sb->vS.ownBlock≠some k->W'.heap[k]? = W.heap[k]? := ha.block;have d:∀ g,vS.ownBlock=some g->kb+1<=g:=Ot h.sr;refine⟨G,⟨?_,h.ids,h.ne,E,A,?_,ha.names,?_,?_,?_⟩⟩
 ·refine⟨ha.os.trans h.low.os,ha.tape.trans h.low.tape,ha.output.trans h.low.output,Yk h.low.size ha.size,fun k hk=>?_⟩;have I:=h.low.size;have J:=h.ids;rw[hb k (by omega) (by omega) (by omega) (fun e=>by have:=d k e;omega)];exact h.low.block k hk
 ·refine h.tr.keep fun g cs fz hg hge=>?_;have j:g<W.heap.size:=by rcases hg with hg|hg<;>exact (J1.1 hg).1
  refine hb g j (by omega) (fun e=>?_) ?_
  ·subst e
   rcases hg with hg|hg<;>exact h.sm.no_cells hg
  rcases hg with hg|hg
  ·exact R9 h.sr hg (by decide)
  exact R9 h.sr hg (by decide)
 ·exact h.fm.at_heap (hb fb h.fm.lt (Bx.no_smap h.fm h.box) (Ne.symm h.ne.1) (G9 h.sr h.fm))
 ·exact h.tm.at_heap (hb tb h.tm.lt (Ac h.tm h.box) (Ne.symm h.ne.2.1) (X6 h.sr h.tm))
 exact h.km.at_heap (hb gb h.km.lt (fun e=>Tz h.km (h.box.cell 0) e.symm) (Ne.symm h.ne.2.2.1) (Pj h.sr h.km))
theorem BookS.all {w0:World}{kb sb fb tb gb nS:Nat}{S:List (List UInt8)}{vS vT:Value}{W:World}(h:BookS w0 kb sb fb tb gb nS S vS vT W):Book w0 kb sb fb tb gb 0 nS 0 0 S [] [] vS (.slice none 0 0) vT W.heap.size W:=
 ⟨h.low,h.ids,h.ne,h.box,h.sr,⟨[],rfl,⟨rfl,.inl ⟨rfl,rfl⟩⟩,fun x hx=>by cases hx⟩,h.tr,⟨h.box.lt,Of,fun g hg=>(h.sr.lt g hg).2⟩,h.sm,h.fm,h.tm,_,h.km,fun s x hx=>by cases hx⟩
theorem Book.bk {w0:World}{kb sb fb tb gb n nS nF nT:Nat}{S:List (List UInt8)}{F:List Fn}{T:List Tm}{vS vF vT:Value}{bF:Nat}{W:World}(h:Book w0 kb sb fb tb gb n nS nF nT S F T vS vF vT bF W)(hS:nS<=1000)(hF:nF<=1000)(hE:EV w0)(hR:RT w0):∃ g,BK W kb sb fb gb n S F T vS vF vT (.map (some tb)) g:=by
 obtain⟨g,d,j⟩:=h.km;exact⟨g,h.box,h.sm.to hS,h.fm.to hF,h.fr.at,h.tr.at,d,j,hE.keep (Below.keep h.low),hR.keep (Below.keep h.low),h.ne.2.2.1,h.ne.2.2.2.2.1⟩
theorem Book.addF {w0:World}{kb sb fb tb gb n nS nF nT:Nat}{S:List (List UInt8)}{F:List Fn}{T:List Tm}{vS vF vT:Value}{bF:Nat}{W W':World}(h:Book w0 kb sb fb tb gb n nS nF nT S F T vS vF vT bF W){X:List (Fn×Value)}{f:Fn}(hX:X.map Prod.fst=F)(hr:W.ownsRow bF 47 3 vF F.length (X.flatMap Bm))(hA:∀ x∈X,W.ownsRow bF 9 1 x.2 x.1.args.length (U3 x.1.args))
 (ha:AddedF bF kb sb fb gb n nF S F f vS vF vT (.map (some tb)) (X.flatMap Bm) W W'):∃ vF' n',n'<=n+6/\Book w0 kb sb fb tb gb n' nS (nF+1) nT S (F++[f]) T vS vF' vT bF W':=by
 obtain⟨Y,Z,V,M,O,_⟩:=ha.row;obtain⟨n',U,J,E,K⟩:=ha.kinds;obtain⟨g0,G,-⟩:=h.km;have hb:∀ k,k<W.heap.size->k≠kb->k≠fb->k≠gb->vF.ownBlock≠some k->W'.heap[k]? = W.heap[k]? := ha.block;have I:∀ g,vF.ownBlock=some g->bF<=g:=Ot hr;have A:=h.far;have d:∀ g cs ty fz,W.heap[g]? = some (.cells cs ty fz)->ty≠47->g≠kb->W'.heap[g]? = W.heap[g]? := fun g cs ty fz hg ht hne=>
  hb g (J1.1 hg).1 hne (fun e=>h.fm.no_cells (e ▸ hg)) (fun e=>G.no_cells (e ▸ hg)) (R9 hr hg (Ne.symm ht))
 refine⟨Y,n',J,⟨?_,h.ids,h.ne,V,?_,⟨X++[(f,Z)],?_,?_,?_⟩,?_,⟨A.1,Yk A.2.1 ha.size,A.2.2⟩,?_,ha.names,?_,U,E,K⟩⟩
 ·refine⟨ha.os.trans h.low.os,ha.tape.trans h.low.tape,ha.output.trans h.low.output,Yk h.low.size ha.size,fun k hk=>?_⟩;have h1:=h.low.size;have h2:=h.ids;rw[hb k (by omega) (by omega) (by omega) (by omega) (fun e=>by have:=I k e;omega)];exact h.low.block k hk
 ·refine Ox h.sr fun g hg=>?_;obtain⟨c,fz,hc⟩:=Kt h.sr g hg;exact d g c _ fz hc (by decide) (by have:=Ot h.sr g hg;omega)
 ·rw[Zc,hX];rfl
 ·rw[V3,Y8]
  simpa using M
 ·intro x j
  rcases Z6.1 j with j|j
  ·refine Ox (hA x j) fun g hg=>?_;obtain⟨c,fz,hc⟩:=Kt (hA x j) g hg;exact d g c _ fz hc (by decide) (by have:=Ot (hA x j) g hg;omega)
  obtain rfl:=List.mem_singleton.1 j;exact E7 O A.2.1
 ·refine h.tr.keep fun g cs fz hg hge=>?_
  rcases hg with hg|hg
  ·exact d g cs _ fz hg (by decide) (by omega)
  exact d g cs _ fz hg (by decide) (by omega)
 ·exact h.sm.at_heap (hb sb h.sm.lt (Bx.no_smap h.sm h.box) h.ne.1 h.ne.2.2.1 (G9 hr h.sm))
 exact h.tm.at_heap (hb tb h.tm.lt (Ac h.tm h.box) (Ne.symm h.ne.2.2.2.1) h.ne.2.2.2.2.2 (X6 hr h.tm))
theorem Book.addT {w0:World}{kb sb fb tb gb n nS nF nT:Nat}{S:List (List UInt8)}{F:List Fn}{T:List Tm}{vS vF vT:Value}{bF:Nat}{W W':World}(h:Book w0 kb sb fb tb gb n nS nF nT S F T vS vF vT bF W){X:List (Tm×Value)}{t:Tm}(hX:X.map Prod.fst=T)(hr:W.ownsRow (kb+1) 57 6 vT T.length (X.flatMap Pn))(hA:∀ x∈X,W.ownsRow (kb+1) 3 1 x.2 x.1.kids.length (G8 x.1.kids))
 (ha:AddedT (kb+1) kb sb fb gb tb n nT S T t vS vF vT (X.flatMap Pn) W W'):∃ vT' n',n'<=n+60/\Book w0 kb sb fb tb gb n' nS nF (nT+1) S F (T++[t]) vS vF vT' bF W':=by
 obtain⟨Z,va,Y,M,O,_⟩:=ha.row;obtain⟨n',U,J,E,K⟩:=ha.kinds;obtain⟨g0,G,-⟩:=h.km;have hb:∀ k,k<W.heap.size->k≠kb->k≠tb->k≠gb->vT.ownBlock≠some k->W'.heap[k]? = W.heap[k]? := ha.block;have I:∀ g,vT.ownBlock=some g->kb+1<=g:=Ot hr;have A:=h.far;have V:=h.box.lt;have d:∀ g cs ty fz,W.heap[g]? = some (.cells cs ty fz)->ty≠57->g≠kb->W'.heap[g]? = W.heap[g]? := fun g cs ty fz hg ht hne=>
  hb g (J1.1 hg).1 hne (fun e=>h.tm.no_cells (e ▸ hg)) (fun e=>G.no_cells (e ▸ hg)) (R9 hr hg (Ne.symm ht))
 refine⟨Z,n',J,⟨?_,h.ids,h.ne,Y,?_,?_,⟨X++[(t,va)],?_,?_,?_⟩,⟨A.1,Yk A.2.1 ha.size,A.2.2⟩,?_,?_,ha.terms,U,E,K⟩⟩
 ·refine⟨ha.os.trans h.low.os,ha.tape.trans h.low.tape,ha.output.trans h.low.output,Yk h.low.size ha.size,fun k hk=>?_⟩;have h1:=h.low.size;have h2:=h.ids;rw[hb k (by omega) (by omega) (by omega) (by omega) (fun e=>by have:=I k e;omega)];exact h.low.block k hk
 ·refine Ox h.sr fun g hg=>?_;obtain⟨c,fz,hc⟩:=Kt h.sr g hg;exact d g c _ fz hc (by decide) (by have:=Ot h.sr g hg;omega)
 ·refine h.fr.keep fun g cs fz hg hge=>?_
  rcases hg with hg|hg
  ·exact d g cs _ fz hg (by decide) (by omega)
  exact d g cs _ fz hg (by decide) (by omega)
 ·rw[Zc,hX];rfl
 ·rw[V3,Y8]
  simpa using M
 ·intro x j
  rcases Z6.1 j with j|j
  ·refine Ox (hA x j) fun g hg=>?_;obtain⟨c,fz,hc⟩:=Kt (hA x j) g hg;exact d g c _ fz hc (by decide) (by have:=Ot (hA x j) g hg;omega)
  obtain rfl:=List.mem_singleton.1 j;exact E7 O (by omega)
 ·exact h.sm.at_heap (hb sb h.sm.lt (Bx.no_smap h.sm h.box) h.ne.2.1 h.ne.2.2.1 (G9 hr h.sm))
 exact h.fm.at_heap (hb fb h.fm.lt (Bx.no_smap h.fm h.box) h.ne.2.2.2.1 h.ne.2.2.2.2.1 (G9 hr h.fm))
def addP (S:List (List UInt8))(num:Tm->Bool)(F:List Fn)(T:List Tm)(i:Nat):Bool:=match T[i]? with
 | none=>true
 | some t=>Gi (Ov (Oh (Og S))) num F (Oq F) (T.take i) t&&(Ij (T.take i) t).isNone
def Gl (S:List (List UInt8))(num:Tm->Bool)(F:List Fn)(T:List Tm):Bool:=decide (T.length<=3000)&&decide (S.length+F.length<=300)&&He (S++F.map (·.name))&&F.all (Kj (Oh (Og S)))&&(List.range T.length).all (addP S num F T)
theorem seek_idx (T:List Tm)(t:Tm):decide (Gg T t<0)=(Ij T t).isNone:=by
 unfold Gg Ij
 cases T.findIdx? (fun u=>decide (u=t)) with
 | none=>rfl
 | some i=>simp
theorem NT:∀ r∈rules,r.sort≠0:=by decide
theorem VX {rd:List UInt8->SI}{num:Tm->Bool}{F:List Fn}{f2:List UInt8->Option Nat}{T:List Tm}{t:Tm}(h:Gi rd num F f2 T t=true):(rd t.sort).kind≠0:=by
 unfold Gi at h
 cases j:Ep t.op with
 | none=>rw[j] at h;cases h
 | some r=>
   rw[j] at h;simp only[J3] at h;have d:=h.1.1.1.2;have A:=NT r (X7 j);unfold O5 at d
   split at d
   ·simpa using d
   split at d
   ·simp only[Uq,Yg] at d;omega
   simp only[Yg] at d;omega
theorem GP {T:List Tm}{i:Nat}{x:Int}(h:0<=x/\x<(i:Int)):Ky (T.take i) x=Ky T x:=by
 unfold Ky;rw[List.getElem?_take_of_lt (by omega)]
theorem XB {S:List (List UInt8)}{num:Tm->Bool}{F:List Fn}{T:List Tm}{i:Nat}(hi:i<=T.length)(t:Tm):Kc S num F T i t=M7 (Ov (On S)) num F (T.take i) t:=by
 unfold Kc M7;rw[J4,Zi hi]
 cases J:Kf t
 ·rfl
 cases I:Xz i t
 ·rfl
 simp only[Za];have hx:∀ x∈t.kids,Ky (T.take i) x=Ky T x:=fun x hx=>GP (by simpa using Ju.1 I x hx);have G:E1 (T.take i) t=E1 T t:=by
  unfold E1;exact List.map_congr_left (fun x hx'=>by rw[hx x hx'])
 rw[G];have hl:=(Kw J).1;unfold Nv
 by_cases d:t.op=16
 ·have E:Ky (T.take i) (t.kids.headD 0)=Ky T (t.kids.headD 0):=by
   cases A:t.kids with
   | nil=>rw[A,d] at hl;exact absurd hl (by decide)
   | cons x r=>exact hx x (by rw[A];simp)
  rw[E]
  split<;>first|rfl|(exfalso;omega)|skip
  all_goals (repeat (first|rfl|split))
  all_goals (first|rfl|(exfalso;omega))
 by_cases j:t.op=21∨t.op=22
 ·have K:2<=t.kids.length:=by rcases j with h|h<;>(rw[h] at hl;exact hl)
  have E:Ky (T.take i) ((t.kids[1]?).getD 0)=Ky T ((t.kids[1]?).getD 0):=by
   rw[Jf (by omega)];exact hx _ (Jw _)
  rw[E];rw[if_neg d,if_neg d]
 rw[if_neg d,if_neg d,if_neg j,if_neg j]
theorem OQ {L M:List (List UInt8)}(h:He (L++M)=true):∀ n∈L,E5 n=true:=by
 intro n hn;obtain⟨j,d,rfl⟩:=Ya hn;unfold He at h;have:=Ju.1 h j (Y6.2 (by rw[Y8];omega));rw[List.getElem?_append_left d,Jf d] at this;simp only[J3] at this;exact this.1
theorem OP {own:List UInt8->Bool}{f:Fn}(h:Kj own f=true):(Ov own f.sort).kind≠0:=by
 unfold Kj at h;simp only[J3,Yg] at h;exact h.1.2
theorem IW (S:List (List UInt8))(num:Tm->Bool)(F:List Fn)(T:List Tm)(hnum:∀ own t,num t=true->(Ov own t.sort).kind=2∨(Ov own t.sort).kind=3):Gl S num F T=Hg S num F T:=by
 unfold Gl Hg N4
 by_cases I:¬ T.length<=3000
 ·rw[Jg I];rfl
 have I:=Decidable.not_not.1 I;rw[Jb I];simp only[Za]
 by_cases J:¬ S.length+F.length<=300
 ·rw[Jg J];rfl
 have J:=Decidable.not_not.1 J;rw[Jb J];simp only[Za]
 cases h3:He (S++F.map (·.name))
 ·rfl
 simp only[Za];have d:=QO (OQ h3);rw[d]
 cases h4:F.all (Kj (On S))
 ·rfl
 simp only[Za];have M:∀ f∈F,(Ov (On S) f.sort).kind≠0:=fun f hf=>OP (Ju.1 h4 f hf);have G:∀ i,(∀ j,j<i->addP S num F T j=true)->i<T.length->addP S num F T i=(match T[i]? with|none=>true|some t=>Kc S num F T i t&&decide (Gg (T.take i) t<0)):=by
  intro i U E;have O:∀ u∈T.take i,(Ov (On S) u.sort).kind≠0:=by
   intro u V;obtain⟨j,hj,rfl⟩:=Ya V;rw[J4] at hj;have:=U j (by omega);unfold addP at this;rw[Jf (by omega),d] at this;simp only[J3] at this;rw[List.getElem_take];exact VX this.1
  unfold addP;rw[Jf E,d];simp only;rw[FF (ZH _) O M rfl (hnum (On S)),XB (by omega),seek_idx]
 rw[Yb,Ju,Ju];constructor
 ·intro h i E;have A:=Y6.1 E;exact (G i (fun j hj=>h j (Y6.2 (by omega))) A).symm.trans (h i E)
 intro h i E;have A:=Y6.1 E;have:∀ k,k<=T.length->∀ j,j<k->addP S num F T j=true:=by
  intro k
  induction k with
  | zero=>intro _ j hj;exact absurd hj (J2 _)
  | succ k ih=>
    intro Y j hj
    rcases J0.1 hj with K|rfl
    ·exact ih (by omega) j K
    exact (G j (ih (by omega)) (by omega)).trans (h j (Y6.2 (by omega)))
 exact this T.length Of i A
theorem S2 (A B:List (List UInt8))(s:List UInt8):On (A++B) s=(On A s||On B s):=by
 unfold On;rw[Yb];simp
theorem OE (F:List Fn)(n:List UInt8):(Oq F n).isSome=On (F.map (·.name)) n:=by rw[Qh,idxF_some]
theorem In (A:List (List UInt8))(B:List Fn)(s:List UInt8):Nh (Og A) (Oq B) s=!(E5 s&&!On (A++B.map (·.name)) s):=by
 unfold Nh;rw[idxF_some,OE,S2]
 cases E5 s<;>cases On A s<;>cases On (B.map (·.name)) s<;>rfl
theorem Dr {S:List (List UInt8)}{num:Tm->Bool}{F:List Fn}{T:List Tm}(h:He (S++F.map (·.name))=false):Gl S num F T=false:=by
 unfold Gl;rw[h];simp
theorem OL {S:List (List UInt8)}{num:Tm->Bool}{F:List Fn}{T:List Tm}{k:Nat}(hk:k<S.length)(h:Nh (Og (S.take k)) (Oq []) S[k]=true):Gl S num F T=false:=by
 refine Dr (freshL_no (i:=k) (by rw[Y8];omega) ?_);rw[In] at h;rw[Vx hk,Zt (by omega)];rw[Vs,Ua,List.append_nil] at h;exact h
theorem OC {S:List (List UInt8)}{num:Tm->Bool}{F:List Fn}{T:List Tm}{k:Nat}(hk:k<F.length)(h:Nh (Og S) (Oq (F.take k)) F[k].name=true):Gl S num F T=false:=by
 refine Dr (freshL_no (i:=S.length+k) (by rw[Y8,Zv];omega) ?_);rw[In] at h;rw[Vn (by omega)];simp only[V7,Vi,List.take_length_add_append,<-List.map_take];rw[Vs] at h;exact h
theorem KW {S:List (List UInt8)}{num:Tm->Bool}{F:List Fn}{T:List Tm}{k:Nat}(hk:k<F.length)(h:Kj (Oh (Og S)) F[k]=false):Gl S num F T=false:=by
 have:F.all (Kj (Oh (Og S)))=false:=by
  rw[J9];intro ha;rw[Ju.1 ha _ (Jw hk)] at h;cases h
 unfold Gl;rw[this];simp
theorem Cj {S:List (List UInt8)}{num:Tm->Bool}{F:List Fn}{T:List Tm}{k:Nat}(hk:k<T.length)(h:addP S num F T k=false):Gl S num F T=false:=by
 have:(List.range T.length).all (addP S num F T)=false:=by
  rw[J9];intro ha;rw[Ju.1 ha _ (Y6.2 hk)] at h;cases h
 unfold Gl;rw[this,Y0]
theorem KJ {S:List (List UInt8)}{num:Tm->Bool}{F:List Fn}{T:List Tm}(h1:T.length<=3000)(h2:S.length+F.length<=300)(h3:∀ j (h:j<S.length),Nh (Og (S.take j)) (Oq []) S[j]=false)(h4:∀ j (h:j<F.length),Nh (Og S) (Oq (F.take j)) F[j].name=false/\Kj (Oh (Og S)) F[j]=true)(h5:∀ j,j<T.length->addP S num F T j=true):Gl S num F T=true:=by
 unfold Gl;rw[Jb h1,Jb h2];simp only[Za,J3];refine⟨⟨?_,?_⟩,?_⟩
 ·unfold He;refine Ju.2 fun i hi=>?_;have hi:=Y6.1 hi;rw[Jf hi];simp only
  by_cases d:i<S.length
  ·have:=h3 i d;rw[In] at this;rw[Vx d,Zt (by omega)]
   simpa using this
  rw[Y8,Zv] at hi;have:=(h4 (i - S.length) (by omega)).1;rw[In] at this;obtain⟨k,rfl⟩:∃ k,i=S.length+k:=⟨i - S.length,by omega⟩;rw[Vn (by omega)];simp only[V7,Vi,List.take_length_add_append,<-List.map_take] at this ⊢
  simpa using this
 ·refine Ju.2 fun f hf=>?_;obtain⟨j,A,rfl⟩:=Ya hf;exact (h4 j A).2
 exact Ju.2 fun i hi=>h5 i (Y6.1 hi)
theorem NM:∀ r∈rules,r.most<=50:=by decide
theorem RO {rd:List UInt8->SI}{num:Tm->Bool}{F:List Fn}{f2:List UInt8->Option Nat}{T:List Tm}{t:Tm}(h:Gi rd num F f2 T t=true)(hT:T.length<=3000)(ho:(Lit.int .i64 t.op).wf=true)(ha:(Lit.int .i64 t.a).wf=true)(hb:(Lit.int .i64 t.b).wf=true)(hs:t.sort.length<=1048576)(hx:t.text.length<=1048576):WfT t:=by
 unfold Gi at h
 cases d:Ep t.op with
 | none=>rw[d] at h;cases h
 | some r=>
   rw[d] at h;simp only[J3,Yg] at h;have j:=NM r (X7 d);refine⟨ho,ha,hb,hs,hx,by omega,fun x hx=>?_⟩;have:=Ju.1 h.1.1.1.1.2 x hx;rw[Yg] at this;omega
end Go.Proofs.YtipgjenolpofpaaGreatDoor
namespace Go.Proofs.YtipgjenolpofpaaGreatDoor
open ChangeShapes WideShapes ChangeAt RowKit Proofs.Tryz
theorem PM (n:Int)(w:World):(Instr.makeMap 86 (some (.int .i64 n))).run prog w=.ok (.map (some w.heap.size)) (w.alloc (.map #[] 0)):=by
 simp[Instr.makeMap,go_sem]
theorem PB (n:Int)(w:World):(Instr.makeMap 87 (some (.int .i64 n))).run prog w=.ok (.map (some w.heap.size)) (w.alloc (.map #[] 0)):=by
 simp[Instr.makeMap,go_sem]
structure Made (w:World)(kb sb fb tb gb:Nat)(W:World):Prop where
 low:Up w W
 ids:w.heap.size<=kb/\w.heap.size<=sb/\w.heap.size<=fb/\w.heap.size<=tb/\w.heap.size<=gb
 ne:sb≠fb/\sb≠tb/\sb≠gb/\fb≠tb/\fb≠gb/\tb≠gb
 box:Bx W kb [.slice none 0 0,.slice none 0 0,.slice none 0 0,.map (some sb),.map (some fb),.map (some tb),.map (some gb)]
 s:W.heap[sb]? = some (.map #[] 0)
 f:W.heap[fb]? = some (.map #[] 0)
 t:W.heap[tb]? = some (.map #[] 0)
 g:W.heap[gb]? = some (.map #[] 0)
theorem Hv {w w':World}(h:Up w w')(o:Obj):Up w (w'.alloc o):=h.alloc h.size _
theorem PL (W1:World)(i j k l:Nat)(hi:W1.heap.size<=i/\i<W1.heap.size+4)(hj:W1.heap.size<=j/\j<W1.heap.size+4)(hk:W1.heap.size<=k/\k<W1.heap.size+4)(hl:W1.heap.size<=l/\l<W1.heap.size+4)(hne:i≠j/\i≠k/\i≠l/\j≠k/\j≠l/\k≠l) :
 Made W1 (W1.heap.size+1+1+1+1) i j k l (((((W1.alloc (.map #[] 0)).alloc (.map #[] 0)).alloc (.map #[] 0)).alloc (.map #[] 0)).alloc (.cells #[.slice none 0 0,.slice none 0 0,.slice none 0 0,.map (some i),.map (some j),.map (some k),.map (some l)] 90)).drew:=by
 have A:∀ d,W1.heap.size<=d/\d<W1.heap.size+4->(((((W1.alloc (.map #[] 0)).alloc (.map #[] 0)).alloc (.map #[] 0)).alloc (.map #[] 0)).alloc (.cells #[.slice none 0 0,.slice none 0 0,.slice none 0 0,.map (some i),.map (some j),.map (some k),.map (some l)] 90)).drew.heap[d]? = some (.map #[] 0):=by
  intro d E
  show ((((((W1.heap.push _).push _).push _).push _).push _)[d]?)=_
  simp only[Array.getElem?_push,Array.size_push];rw[if_neg (by omega)]
  repeat' split
  all_goals first|rfl|(exfalso;omega)
 refine⟨?_,⟨by omega,hi.1,hj.1,hk.1,hl.1⟩,hne,?_,A i hi,A j hj,A k hk,A l hl⟩
 ·exact (Hv (Hv (Hv (Hv (Hv (Jh _ _) _) _) _) _) _).drew
 have h:=Oi ((((W1.alloc (.map #[] 0)).alloc (.map #[] 0)).alloc (.map #[] 0)).alloc (.map #[] 0)) [.slice none 0 0,.slice none 0 0,.slice none 0 0,.map (some i),.map (some j),.map (some k),.map (some l)] 90;have e:((((W1.alloc (.map #[] 0)).alloc (.map #[] 0)).alloc (.map #[] 0)).alloc (.map #[] 0)).heap.size=W1.heap.size+1+1+1+1:=by simp
 rw[e] at h;exact h.drew
theorem Az {P:Program}{k:TypeId}{R:Value->Option (DataW Unit×List MemPlace)}{W:World}{b:Nat}(h:W.heap[b]? = some (.map #[] 0)):W.ownsMap P k R b 0 (.map []):=by
 obtain⟨E,A,d,j⟩:=World.ownsMap_made (H:=Unit) W P k R;rw[heap_alloc_new] at d;cases d;exact⟨_,_,h,j⟩
theorem Ey.new {W:World}{b:Nat}(h:W.heap[b]? = some (.map #[] 0)):Ey W b 0 (Og []):=⟨_,Az h,fun _=>⟨rfl,fun i hi=>by cases hi⟩⟩
theorem Es.new {W:World}{b:Nat}(h:W.heap[b]? = some (.map #[] 0)):Es W b 0 []:=⟨_,Az h,fun _ _=>⟨rfl,fun i hi=>by cases hi⟩⟩
theorem KM.new {W:World}{b:Nat}(h:W.heap[b]? = some (.map #[] 0)):KM W b 0 (fun _=>none):=⟨_,Az h,fun _=>⟨rfl,rfl⟩⟩
theorem Made.begin {w:World}{kb sb fb tb gb:Nat}{W W2:World}{vT:Value}(h:Made w kb sb fb tb gb W)(hg:W.grownBy W2 none)(hr:W2.ownsRow (kb+1) 57 6 vT 0 []):BookS w kb sb fb tb gb 0 [] (.slice none 0 0) vT (W2.setCell ⟨kb,2,none⟩ vT):=by
 have hb:∀ k,k<W.heap.size->W2.heap[k]? = W.heap[k]? := fun k hk=>hg.block k hk (fun e=>by cases e);have hx:Bx W2 kb [.slice none 0 0,.slice none 0 0,.slice none 0 0,.map (some sb),.map (some fb),.map (some tb),.map (some gb)]:=by
  have A:=h.box.lt;obtain⟨I,j⟩:=h.box;exact⟨I,(hb kb A).trans j⟩
 have G:∀ k,k≠kb->(W2.setCell ⟨kb,2,none⟩ vT).heap[k]? = W2.heap[k]? := fun k hk=>Jq W2 ⟨kb,2,none⟩ _ k hk;have d:∀ k:Nat,W.heap[k]? = some (Obj.map #[] 0)->(W2.setCell ⟨kb,2,none⟩ vT).heap[k]? = some (Obj.map #[] 0):=fun k hk=>by
  have E:k≠kb:=by
   rintro rfl;obtain⟨I,j⟩:=h.box;rw[hk] at j;cases j
  rw[G k E,hb k (J1.1 hk).1];exact hk
 refine⟨?_,h.ids,h.ne,hx.set 2 vT,⟨rfl,.inl ⟨rfl,rfl⟩⟩,⟨[],rfl,Ox hr (fun g hgk=>G g (fun e=>by have:=Ot hr g hgk;omega)),fun x hx=>by cases hx⟩,Ey.new (d sb h.s),Ey.new (d fb h.f),Es.new (d tb h.t),KM.new (d gb h.g)⟩;have J:=h.low.size;have K:=h.ids;have h3:=hg.size;refine⟨hg.os.trans h.low.os,hg.tape.trans h.low.tape,hg.output.trans h.low.output,?_,fun k hk=>?_⟩
 ·simp only[World.setCell,Z1];omega
 rw[G k (by omega),hb k (by omega),h.low.block k hk]
end Go.Proofs.YtipgjenolpofpaaGreatDoor
