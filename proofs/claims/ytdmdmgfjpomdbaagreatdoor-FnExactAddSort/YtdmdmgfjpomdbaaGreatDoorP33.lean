import Derived.Test.YtdmdmgfjpomdbaaGreatDoorP00
import Derived.Test.YtdmdmgfjpomdbaaGreatDoorP32
import Derived.Deep.RegionLaw
set_option maxRecDepth 100000
set_option maxHeartbeats 8000000
namespace Go.Proofs.YtdmdmgfjpomdbaaGreatDoor
open ChangeShapes WideShapes ChangeAt RowKit Proofs.Tryz
variable {T:List Tm}{b base e m n size:Nat}{f:List UInt8->Option Nat}{g:List UInt8->Option SI}{v:Value}{w w':World}{xs:List Value}
theorem Rd (F:List Fn):Od F=Oq (F.map Fn.name):=by
 funext n
 unfold Od Oq;rw[List.findIdx?_map];rfl
theorem Ef.at_heap (h:Ef w b n f)(e:w'.heap[b]? = w.heap[b]?):Ef w' b n f:=by
 obtain⟨D,⟨j,d,G,E⟩,A⟩:=h;exact⟨D,⟨j,d,e.trans G,E⟩,A⟩
theorem Ef.lt (h:Ef w b n f):b<w.heap.size:=by
 obtain⟨D,⟨A,j,d,G⟩,E⟩:=h;exact (Jv.1 d).1
theorem KM.at_heap (h:KM w b n g)(e:w'.heap[b]? = w.heap[b]?):KM w' b n g:=by
 obtain⟨D,⟨j,d,G,E⟩,A⟩:=h;exact⟨D,⟨j,d,e.trans G,E⟩,A⟩
theorem Iz (h:w.ownsRow base e size v n xs)(hm:Ef w b m f):v.ownBlock≠some b:=fun e'=>by
 obtain⟨cs,fz,j⟩:=Kp h b e'
 obtain⟨D,⟨E,A,d,_⟩,_⟩:=hm
 rw[j] at d
 cases d
theorem D9 (h:w.ownsRow base e size v n xs)(hm:KM w b m g):v.ownBlock≠some b:=fun e'=>by
 obtain⟨cs,fz,j⟩:=Kp h b e'
 obtain⟨D,⟨E,A,d,_⟩,_⟩:=hm
 rw[j] at d
 cases d
structure AddedF (base kb sb fb gb n m:Nat)(S:List (List UInt8))(F:List Fn)(f:Fn)(vS vF vT v5:Value)(xs:List Value)(w w':World):Prop where
 row:∃ v1 va,Bx w' kb [vS,v1,vT,.map (some sb),.map (some fb),v5,.map (some gb)]/\w'.ownsRow base 45 3 v1 (F.length+1) (xs++funC (f,va))/\w'.ownsRow w.heap.size 9 1 va f.args.length (strsC f.args)/\v1.ownBlock≠some kb
 names:Ef w' fb (m+1) (Od (F++[f]))
 kinds:∃ n' g',n'<=n+6/\KM w' gb n' g'/\ZM (Oq S) g'
 os:w'.os=w.os
 tape:w'.tape=w.tape
 output:w'.output=w.output
 size:w.heap.size<=w'.heap.size
 block:∀ k,k<w.heap.size->k≠kb->k≠fb->k≠gb->vF.ownBlock≠some k->w'.heap[k]? = w.heap[k]?
theorem Ae {kb sb fb gb:Nat}{S:List (List UInt8)}{F:List Fn}{p0:Option Addr}{c0:Nat}{vF vT v5:Value}(h:BK w kb sb fb gb n S F T (.slice p0 S.length c0) vF vT v5 g)(base m:Nat)(xs:List Value)
 (hrow:w.ownsRow base 45 3 vF F.length xs) (hrk:vF.ownBlock≠some kb) (hN:Ef w fb m (Od F)) (hm:m<=1000) (hb:base<=w.heap.size) (f:Fn) (va:Value) (hva:O3 w va f.args) (hl:f.args.length<=5) (hzn:f.name.length<=1048576) (hz:∀ a∈f.args,a.length<=1048576) (hzs:f.sort.length<=1048576) (hn:n<=900000000)
 (hf:Ee (Oq S) (Od F) f.name=false) (hok:K4 (Oc (Oq S)) f=true) (hfull:S.length+F.length<300) :
 Calls prog 47 #[.pointer (some ⟨kb,0,none⟩),.agg #[.string (Oo f.name),va,.string (Oo f.sort)]] w fun e w'=>e=.returned (.tuple #[.int .i64 (F.length:Nat),.int .i64 0])/\AddedF base kb sb fb gb n m S F f (.slice p0 S.length c0) vF vT v5 xs w w':=by
 have q1:(Oo f.name).size<=1048576:=by show f.name.toArray.size<=_;simpa using hzn
 have k0:=Hd hva;obtain⟨pa,ca,rfl,-,-,-⟩:=hva;obtain⟨Y,U,rfl⟩:=Ed hrow;have o6:Hid (Od F f.name=none):=by
  unfold Hid;simp only[Ee,Bool.or_eq_false_iff] at hf
  cases h:Od F f.name with
  | none=>rfl
  | some i=>rw[h] at hf;simp at hf
 obtain⟨W0,b4⟩:=Oa (w.alloc (.cells #[.string (Oo f.name),.slice pa f.args.length ca,.string (Oo f.sort)] 45));have p4:=Hd b4;have A:Hid (Up w W0):=by unfold Hid;rw[<-b4];exact Oz _ _
 have j9:Hid (W0.heap.size=w.heap.size+1):=by unfold Hid;rw[<-b4];simp
 have g1:Hid (Bx W0 w.heap.size [.string (Oo f.name),.slice pa f.args.length ca,.string (Oo f.sort)]):=by unfold Hid;rw[<-b4];exact Oi w _ _
 have HH:=Hd (h.next A.o);have o0:Hid (Hg (Oq S) (Od F) f.name=0):=by unfold Hid Hg;rw[hf];rfl
 have i7:=Hd (Ie HH.o f _ (k0.o.bl A.o) hz hzs hn);rw[hok] at i7;have HR:=Hd hrow;have o5:=Hd hN;have e8:=Hd h.km.lt;have j1:=Hd h.box.lt;have j3:=Hd h.nf;have o1:Hid (kb≠gb):=OS h.km (h.box.cell 0);have i6:Hid (fb≠kb):=NF (hN.to hm) h.box;have j8:=Hd (D9 hrow h.km);have j7:=Hd (Iz hrow hN);have c8:=Hd hN.lt;clear b4 h hf hok hrow hN
 go_in
 go_wp2_with fail
 rw[p4.o];refine (Gv kb sb fb (Oq S) (Od F) (Oo f.name) _ HH.o.box.c7.2.2.2.1 HH.o.box.c7.2.2.2.2.1 HH.o.sm HH.o.fm q1).mono ?_;rw[Ou,o0.o];rintro e K ⟨rfl,rfl⟩;have q6:=Hd g1.o;obtain⟨b0,b1,b2⟩:=g1.o.c3
 go_wp2_with fail
 refine i7.o.mono ?_;rintro e K ⟨rfl,n',g',n1,V,j⟩;have g9:Bx K w.heap.size [.string (Oo f.name),.slice pa f.args.length ca,.string (Oo f.sort)]:=g1.o.bar j (by have:=e8.o;omega);have h1:∀ k,k<w.heap.size->k≠gb->K.heap[k]? = w.heap[k]? := fun k hk hne=>(j.block k (by have:=j9.o;omega) hne).trans (A.o.block k hk);have g7:K.ownsRow base 45 3 (.slice Y F.length U) F.length xs:=own_other' HR.o (fun g hg=>h1 g (HR.o.lt g hg).2 (fun e=>j8.o (hg.trans (congrArg some e))));have g5:Ef K fb m (Od F):=o5.o.at_heap (h1 fb c8.o j3.o);have n2:O3 K (.slice pa f.args.length ca) f.args:=(k0.o.bl A.o).keep (j.keep HH.o.km);have O:Hid (w.heap.size+1<=K.heap.size):=by have:=j.size;have:=j9.o;unfold Hid;omega
 have f8:Hid (K.os=w.os/\K.tape=w.tape/\K.output=w.output):=⟨j.os.trans A.o.os,j.tape.trans A.o.tape,j.output.trans A.o.output⟩;have H1:=Hd h1;have j2:Hid (n'<=n+6/\ZM (Oq S) g'):=⟨n1,V.ok⟩;have HC:Hid (∀ W,Up K W->Bx W kb [.slice p0 S.length c0,.slice Y F.length U,vT,.map (some sb),.map (some fb),v5,.map (some gb)]/\Bx W w.heap.size [.string (Oo f.name),.slice pa f.args.length ca,.string (Oo f.sort)]/\W.ownsRow base 45 3 (.slice Y F.length U) F.length xs/\Ef W fb m (Od F)/\KM W gb n' g'/\O3 W (.slice pa f.args.length ca) f.args):=fun W hW=>
  ⟨V.box.bl V.box.lt hW,g9.bl g9.lt hW,own_other' g7 (fun g hg=>hW.block g (g7.lt g hg).2),g5.low hW g5.lt,V.km.low hW V.km.lt,n2.bl hW⟩
 clear g9 h1 g7 g5 n2 n1 V j b0 b1 b2;obtain⟨hA,hB,-,-,-,-⟩:=HC.o K (Je _ _);obtain⟨a0,a1⟩:=hA.k2;clear hA hB
 go_wp2_with fail
 refine (Xd kb p0 Y S.length c0 F.length U _ a0 a1 (by omega) (by omega)).mono ?_;rw[Jc (by omega)];rintro e w2 ⟨rfl,hb2⟩;have e7:=Hd hb2;obtain⟨hA,hB,-,-,-,hV⟩:=HC.o w2 hb2;have p2:=Hd hV;clear a0 a1 hb2 hV;have a1:=hA.cell 1;simp only[Jm,Js] at a1;obtain⟨b0,b1,b2⟩:=hB.c3;clear hA hB
 go_wp2_with fail
 refine (Wc f _ w2 p2.o hl hzn hzs hz).mono ?_;rintro e w3 ⟨p3,n3,c3,rfl,J,m8⟩;obtain⟨q5,p6,e3⟩:=Ed J;obtain rfl:n3=f.args.length:=by cases e3;rfl
 clear e3 q5 p6;have j4:=Hd (Kh J e7.o.size);have E:=Hd (e7.o.trans (m8.mono e7.o.size));clear J m8 a1 b0 b1 b2;obtain⟨hA,hB,-,-,-,-⟩:=HC.o w3 E.o;obtain⟨b0,b1,b2⟩:=hB.c3;obtain⟨f0,f1,f2⟩:=hB.f3;obtain⟨G,d6⟩:=Oa (((w3.setCell ⟨w.heap.size,0,none⟩ (.string (Oo f.name))).setCell ⟨w.heap.size,1,none⟩ (.slice p3 f.args.length c3)).setCell ⟨w.heap.size,2,none⟩ (.string (Oo f.sort)));have g0:=Hd d6;have m7:Bx G w.heap.size [.string (Oo f.name),.slice p3 f.args.length c3,.string (Oo f.sort)]:=by rw[<-d6];exact ((hB.set 0 _).set 1 _).set 2 _
 have g2:=Hd m7;have h4:∀ k,k≠w.heap.size->G.heap[k]? = w3.heap[k]? := fun k hk=>by rw[<-d6,Jh _ _ _ _ hk,Jh _ _ _ _ hk,Jh _ _ _ _ hk]
 have H4:=Hd h4;clear hA hB d6 m7 h4
 go_upto_region 1 with fail
 rw[g0.o];have d3:Hid (kb≠w.heap.size/\fb≠w.heap.size/\gb≠w.heap.size):=by have:=j1.o;have:=c8.o;have:=e8.o;unfold Hid;omega
 obtain⟨k9,-,l9,l5,l2,-⟩:=HC.o w3 E.o;have l0:Bx G kb [.slice p0 S.length c0,.slice Y F.length U,vT,.map (some sb),.map (some fb),v5,.map (some gb)]:=by
  obtain⟨ty,hh⟩:=k9;exact⟨ty,(H4.o kb d3.o.1).trans hh⟩
 have m5:G.ownsRow base 45 3 (.slice Y F.length U) F.length xs:=own_other' l9 (fun k hk=>H4.o k (fun e=>by have:=(HR.o.lt k hk).2;omega));have p8:Ef G fb m (Od F):=l5.at_heap (H4.o fb d3.o.2.1);have l3:KM G gb n' g':=l2.at_heap (H4.o gb d3.o.2.2);have l7:G.ownsRow K.heap.size 9 1 (.slice p3 f.args.length c3) f.args.length (strsC f.args):=own_other' j4.o (fun k hk=>H4.o k (fun e=>by have:=Ol j4.o k hk;have:=O.o;omega));have e6:=Hd l0;have j5:=Hd m5;have j0:=Hd l3;have e9:=Hd l7;have p1:Hid (K.heap.size<=G.heap.size):=by have:=E.o.size;have e:=g0.o;unfold Hid;rw[<-e];simpa[World.setCell] using this
 have f9:Hid (G.os=w.os/\G.tape=w.tape/\G.output=w.output):=by
  have e:=g0.o;unfold Hid;rw[<-e];exact⟨E.o.os.trans f8.o.1,E.o.tape.trans f8.o.2.1,E.o.output.trans f8.o.2.2⟩
 obtain⟨D,g4,hD⟩:=p8;have n9:=Hd hD;have o2:=Hd g4.isMap;have d9:G.drew.ownsMap prog 9 (plainElem prog 3) fb m D:=by
  obtain⟨es,cl,hh,p9⟩:=g4;exact⟨es,cl,hh,p9⟩
 obtain⟨w5,g8,b7,e5⟩:=d9.update Xc underlying75 (by unfold maxLen;omega) (Gl (Oo f.name) (by unfold maxLen;omega)) (plainElem_int underlying3 (EA (n:=F.length) (by omega)));have o8:=Hd b7;have b3:=Hd e5;have c4:=e6.o.cell 4;simp only[Jm,Js] at c4;obtain⟨e0,e1,e2⟩:=g2.o.c3;clear k9 l9 l5 l2 l0 m5 l3 l7 hD g4 d9 b7 e5 b0 b1 b2 f0 f1 f2
 go_region
 clear g8 c4 e0 e1 e2;have I:∀ k,k<G.heap.size->k≠fb->w5.heap[k]? = G.heap[k]? := fun k hk hne=>b3.o.block k hk (fun e=>hne (Option.some.inj e));have i8:=Hd I;have d4:Bx w5 kb [.slice p0 S.length c0,.slice Y F.length U,vT,.map (some sb),.map (some fb),v5,.map (some gb)]:=by
  have b5:=e6.o.lt;obtain⟨ty,hh⟩:=e6.o;exact⟨ty,(I kb b5 (Ne.symm i6.o)).trans hh⟩
 have d7:Bx w5 w.heap.size [.string (Oo f.name),.slice p3 f.args.length c3,.string (Oo f.sort)]:=by
  have b5:=g2.o.lt;obtain⟨ty,hh⟩:=g2.o;exact⟨ty,(I w.heap.size b5 (Ne.symm d3.o.2.1)).trans hh⟩
 have m6:w5.ownsRow base 45 3 (.slice Y F.length U) F.length xs:=own_other' j5.o (fun k hk=>I k (j5.o.lt k hk).2 (fun e=>j7.o (hk.trans (congrArg some e))));have l8:w5.ownsRow K.heap.size 9 1 (.slice p3 f.args.length c3) f.args.length (strsC f.args):=own_other' e9.o (fun k hk=>I k (e9.o.lt k hk).2 (fun e=>by have:=Ol e9.o k hk;have:=O.o;have:=c8.o;omega));have l4:KM w5 gb n' g':=j0.o.at_heap (I gb j0.o.lt (Ne.symm j3.o));have l6:Ef w5 fb (m+1) (Od (F++[f])):=by
  rw[Rd,Yr];refine Ef.put (L:=F.map Fn.name) (D:=D) (fun s=>?_) o2.o (s:=f.name) ?_ ?_
  ·have:=n9.o s;rw[Rd] at this;exact this
  ·have:=o6.o;rw[Rd] at this;exact this
  have:=o8.o;rw[Zy];exact this
 obtain⟨Z,hZ⟩:=Oa w5.heap.size;have s7:kb<Z:=by rw[<-hZ];exact d4.lt
 have s8:w.heap.size<Z:=by rw[<-hZ];exact d7.lt
 have r5:base<=Z:=by omega
 have s9:G.heap.size<=Z:=by rw[<-hZ];exact b3.o.size
 have k1:=d4.cell 1;simp only[Jm,Js] at k1;obtain⟨x0,x1,x2⟩:=d7.c3;obtain⟨i0,m9,q2,q3,q4⟩:=Lr;have o7:Hid (∀ i u,(funC (f,.slice p3 f.args.length c3))[i]? = some u->((w5.alloc (.cells #[.string (Oo f.name),.slice p3 f.args.length c3,.string (Oo f.sort)] 45)).drew).cell? ((⟨Z,0,none⟩:Addr).add i)=some u):=by
  have h:=World.news_of_block (cs:=#[.string (Oo f.name),.slice p3 f.args.length c3,.string (Oo f.sort)]) (t:=45) (fr:=(0,0)) (heap_alloc_new w5 (.cells #[.string (Oo f.name),.slice p3 f.args.length c3,.string (Oo f.sort)] 45));rw[hZ] at h;exact h
 have l1:Bx (w5.alloc (.cells #[.string (Oo f.name),.slice p3 f.args.length c3,.string (Oo f.sort)] 45)).drew kb [.slice p0 S.length c0,.slice Y F.length U,vT,.map (some sb),.map (some fb),v5,.map (some gb)]:=(d4.alloc _).drew;have b9:=Hd l1;have j6:=Hd m6;have M:=Hd l8;have o3:=Hd l4;have o4:=Hd l6;have r9:=Hd d7;clear l1 m6 l8 l4 l6 d4 d7 I
 go_wp2
 go_region_law
  ((refine step_append_lies _ (by rfl) _ _ _ (by rfl) base 45 i0 _ 3 56 underlying28 m9 q2 q3 q4 rfl (by omega) (.slice Y F.length U) F.length xs (by rfl) ((j6.o.alloc _).drew)
     ⟨Z,0,none⟩ 1 1 (funC (f,.slice p3 f.args.length c3)) (by rfl) (by rfl) o7.o (by simp[funC,Value.oneCell'])
     (by omega) (by unfold maxLen;omega) (by omega) (by simp;omega) (Z+1) (by simp;omega) ?_;intro g6 c6 w6 b8 d e4 n0;have d1:=(d.cell_far ⟨kb,1,none⟩ (by simp;omega) (Ne.symm hrk)).trans (b9.o.cell 1);have d2:=(d.frozen_far ⟨kb,1,none⟩ (by simp;omega) (Ne.symm hrk)).trans (b9.o.fz 1);simp only[Jm,Js] at d1))
 all_goals
  have h6:∀ k,k<Z->k≠kb->some k≠(Value.slice Y F.length U).ownBlock->(w6.setCell ⟨kb,1,none⟩ (.slice (some ⟨g6,0,none⟩) (F.length+1) c6)).heap[k]? = w5.heap[k]? := fun k hk h1 h2=>by
   rw[Jh _ _ _ _ h1,d.block k (by simp;omega) h2];exact (Oz w5 _).block k (by omega)
  have n4:Bx w6 kb [.slice p0 S.length c0,.slice Y F.length U,vT,.map (some sb),.map (some fb),v5,.map (some gb)]:=by
   have b5:=b9.o.lt;obtain⟨ty,hh⟩:=b9.o;exact⟨ty,(d.block kb b5 (Ne.symm hrk)).trans hh⟩
  have b6:g6≠kb:=fun e=>by
   rcases e4 with h|h
   ·exact hrk (h.trans (congrArg some e))
   omega
  have HE:Hid (AddedF base kb sb fb gb n m S F f (.slice p0 S.length c0) (.slice Y F.length U) vT v5 xs w (w6.setCell ⟨kb,1,none⟩ (.slice (some ⟨g6,0,none⟩) (F.length+1) c6))):=by
   refine⟨⟨_,.slice p3 f.args.length c3,n4.set 1 _,own_other' b8 (fun k hk=>Jh _ _ _ _ (fun e=>b6 ((Option.some.inj hk).trans e))),?_,fun e=>b6 (Option.some.inj e)⟩,o4.o.at_heap (h6 fb (by have:=c8.o;omega) i6.o (Ne.symm j7.o)),⟨n',g',j2.o.1,o3.o.at_heap (h6 gb (by have:=e8.o;omega) (Ne.symm o1.o) (Ne.symm j8.o)),j2.o.2⟩,?_,?_,?_,?_,?_⟩
   ·refine Kh (own_other' M.o (fun k hk=>h6 k (by have:=(M.o.lt k hk).2;omega) (fun e=>by have:=Ol M.o k hk;have:=O.o;have:=j1.o;omega) (fun e=>?_))) (by have:=O.o;omega);obtain⟨cs,fz,h1⟩:=Kp M.o k hk;obtain⟨s1,s6,h2⟩:=Kp j6.o k e.symm;rw[h1] at h2;cases h2
   ·exact d.os.trans (b3.o.os.trans f9.o.1)
   ·exact d.tape.trans (b3.o.tape.trans f9.o.2.1)
   ·exact d.output.trans (b3.o.output.trans f9.o.2.2)
   ·have h1:=d.size;have h2:Z<=w6.heap.size:=by simp at h1;omega
    simp only[World.setCell,Z9];omega
   intro k hk h1 h2 h3 h4;rw[h6 k (by omega) h1 (Ne.symm h4),i8.o k (by have:=p1.o;have:=O.o;omega) h2,H4.o k (by omega),E.o.block k (by have:=O.o;omega),H1.o k hk h3]
  clear h6 n4 b6 b8 d e4 n0 d1 d2 k1 x0 x1 x2
  go_wp2_with fail
  refine Jg (v:=.tuple #[.int .i64 (F.length:Nat),.int .i64 0]) ?_ rfl ⟨rfl,HE.o⟩;simp[results,results47,go_sem]
theorem Bx.cs6 {W:World}{g:Nat}{a b c d e f:Value}(h:Bx W g [a,b,c,d,e,f]):W.cell? ⟨g,0,none⟩=some a/\W.cell? ⟨g,1,none⟩=some b/\W.cell? ⟨g,2,none⟩=some c/\W.cell? ⟨g,3,none⟩=some d/\W.cell? ⟨g,4,none⟩=some e/\W.cell? ⟨g,5,none⟩=some f:=
 ⟨h.cell 0,h.cell 1,h.cell 2,h.cell 3,h.cell 4,h.cell 5⟩
theorem Nk.at_heap (h:Nk w b n T)(e:w'.heap[b]? = w.heap[b]?):Nk w' b n T:=by
 obtain⟨D,⟨j,d,G,E⟩,A⟩:=h;exact⟨D,⟨j,d,e.trans G,E⟩,A⟩
theorem Nk.lt (h:Nk w b n T):b<w.heap.size:=by
 obtain⟨D,⟨A,j,d,G⟩,E⟩:=h;exact (Jv.1 d).1
theorem Rz (h:w.ownsRow base e size v n xs)(hm:Nk w b m T):v.ownBlock≠some b:=fun e'=>by
 obtain⟨cs,fz,j⟩:=Kp h b e'
 obtain⟨D,⟨E,A,d,_⟩,_⟩:=hm
 rw[j] at d
 cases d
theorem Tf {g:Nat}{l:List Value}(hm:Nk w b m T)(h:Bx w g l):b≠g:=by
 rintro rfl;obtain⟨E,h⟩:=h;obtain⟨D,⟨A,j,d,_⟩,_⟩:=hm;rw[h] at d
 cases d
structure AddedT (base kb sb fb gb tb n m:Nat)(S:List (List UInt8))(T:List Tm)(t:Tm)(vS vF vT:Value)(xs:List Value)(w w':World):Prop where
 row:∃ v1 va,Bx w' kb [vS,vF,v1,.map (some sb),.map (some fb),.map (some tb),.map (some gb)]/\w'.ownsRow base 55 6 v1 (T.length+1) (xs++Ho (t,va))/\w'.ownsRow w.heap.size 3 1 va t.kids.length (Nx t.kids)/\v1.ownBlock≠some kb
 terms:Nk w' tb (m+1) (T++[t])
 kinds:∃ n' g',n'<=n+60/\KM w' gb n' g'/\ZM (Oq S) g'
 os:w'.os=w.os
 tape:w'.tape=w.tape
 output:w'.output=w.output
 size:w.heap.size<=w'.heap.size
 block:∀ k,k<w.heap.size->k≠kb->k≠tb->k≠gb->vT.ownBlock≠some k->w'.heap[k]? = w.heap[k]?
theorem Wo {kb sb fb gb tb nT:Nat}{S:List (List UInt8)}{F:List Fn}{vS vF vT:Value}(h:BK w kb sb fb gb n S F T vS vF vT (.map (some tb)) g)(htm:Nk w tb nT T)(hnT:nT<=1000000)(hne:tb≠gb)(base:Nat)(xs:List Value)
 (hrow:w.ownsRow base 55 6 vT T.length xs) (hrk:vT.ownBlock≠some kb) (hb:base<=w.heap.size) (t:Tm) (vk:Value) (hk:Kg w vk t.kids) (num:Tm->Bool) (hT:T.length<3000) (hF:F.length<=1000) (hz:∀ u∈T,u.sort.length<=1048576) (hn:n<=800000000) (hwf:WfT t)
 (hnum:t.op=12->((Ov (Oc (Oq S)) t.sort).kind=2∨(Ov (Oc (Oq S)) t.sort).kind=3)->∀ W,Bar gb w W->Calls prog 110 #[.string (Oo t.sort),.string (Oo t.text)] W fun e w'=>e=.returned (.bool (num t))/\Up W w') (hyes:Hy (Ov (Oc (Oq S))) num F (Od F) T t=true) (hj:Xt T t=none) :
 Calls prog 52 #[.pointer (some ⟨kb,0,none⟩),Xz t vk] w fun e w'=>e=.returned (.tuple #[.int .i64 (T.length:Nat),.int .i64 0])/\AddedT base kb sb fb gb tb n nT S T t vS vF vT xs w w':=by
 have HI:=Hd hk;obtain⟨qk,dk,rfl,v7,v8,-⟩:=hk;obtain⟨q0,d0,rfl⟩:=Ed hrow;have HH:=Hd h;obtain⟨W0,e5⟩:=Oa (w.alloc (.cells #[.int .i64 t.op,.string (Oo t.sort),.string (Oo t.text),.int .i64 t.a,.int .i64 t.b,.slice qk t.kids.length dk] 55));have s6:=Hd e5;have HB:Hid (Up w W0):=by unfold Hid;rw[<-e5];exact Oz _ _
 have n7:Hid (W0.heap.size=w.heap.size+1):=by unfold Hid;rw[<-e5];simp
 have r3:Hid (Bx W0 w.heap.size [.int .i64 t.op,.string (Oo t.sort),.string (Oo t.text),.int .i64 t.a,.int .i64 t.b,.slice qk t.kids.length dk]):=by unfold Hid;rw[<-e5];exact Oi _ _ _
 have k7:=Hd (Qf (h.next HB.o) t (.slice qk t.kids.length dk) (HI.o.bl HB.o) num (by omega) (by have:=hwf.kids;omega) hF hz hwf.sort hwf.text hn (fun h12 hk W hW=>hnum h12 hk W ((Bar.of HB.o).trans hW)));have s5:=Hd htm;have HR:=Hd hrow;have K:=Hd hwf;have HJ:=Hd hj;have g6:=Hd h.km.lt;have k8:=Hd h.box.lt;have e3:=Hd htm.lt;have r5:Hid (kb≠gb):=OS h.km (h.box.cell 0);have n8:Hid (tb≠kb):=Tf htm h.box;have n4:=Hd (D9 hrow h.km);have n5:=Hd (Rz hrow htm);clear h hz hnum v7 v8 htm hj e5 hrow;rw[hyes] at k7;unfold Xz at k7 ⊢
 go_in
 go_wp2_with fail
 rw[s6.o];refine k7.o.mono ?_;rintro e w2 ⟨rfl,n2,g2,hn2,e7,j⟩;have q1:=j.keep (HH.o.next HB.o).km;have m7:=Hd ((HI.o.bl HB.o).keep q1);have h1:∀ k,k<w.heap.size->k≠gb->w2.heap[k]? = w.heap[k]? := fun k hk hne=>(j.block k (by have:=n7.o;omega) hne).trans (HB.o.block k hk);have H1:=Hd h1;have a7:=Hd e7;have m8:Hid (n2<=n+60/\ZM (Oq S) g2):=⟨by omega,e7.ok⟩;have j0:=Hd (s5.o.at_heap (h1 tb e3.o hne));have n0:Hid (w2.ownsRow base 55 6 (.slice q0 T.length d0) T.length xs):=own_other' HR.o (fun g hg=>h1 g (HR.o.lt g hg).2 (fun e=>n4.o (hg.trans (congrArg some e))));have d9:Hid (Bx w2 w.heap.size [.int .i64 t.op,.string (Oo t.sort),.string (Oo t.text),.int .i64 t.a,.int .i64 t.b,.slice qk t.kids.length dk]):=r3.o.bar j (by have:=g6.o;omega);have J:Hid (w.heap.size+1<=w2.heap.size):=by have:=j.size;have:=n7.o;unfold Hid;omega
 have l1:Hid (w2.os=w.os/\w2.tape=w.tape/\w2.output=w.output):=⟨j.os.trans HB.o.os,j.tape.trans HB.o.tape,j.output.trans HB.o.output⟩;obtain⟨a0,a1,a2,a3,a4,a5⟩:=d9.o.cs6;clear q1 e7 j h1
 go_wp2_with fail
 refine (Ab t (.slice qk t.kids.length dk) w2 m7.o K.o.kid K.o.kids).mono ?_;rintro e w3 ⟨rfl,h9⟩;have l9:Up w2 (w3.alloc (.cells #[.int .i64 t.op,.string (Oo t.sort),.string (Oo t.text),.int .i64 t.a,.int .i64 t.b,.string (Oo (Ei t.kids))] 108)):=h9.alloc h9.size _;have i8:=Oi w3 [.int .i64 t.op,.string (Oo t.sort),.string (Oo t.text),.int .i64 t.a,.int .i64 t.b,.string (Oo (Ei t.kids))] 108;have u8:w2.heap.size<=w3.heap.size:=h9.size;clear a0 a1 a2 a3 a4 a5 h9
 go_wp2_with fail
 generalize w3.heap.size=A at i8 u8 ⊢;generalize w3.alloc (.cells #[.int .i64 t.op,.string (Oo t.sort),.string (Oo t.text),.int .i64 t.a,.int .i64 t.b,.string (Oo (Ei t.kids))] 108)=W4 at l9 i8 ⊢;have G:=Hd l9;have l4:=Hd i8;have HC:Hid (∀ W,Up W4 W->Bx W kb [vS,vF,.slice q0 T.length d0,.map (some sb),.map (some fb),.map (some tb),.map (some gb)]/\Bx W w.heap.size [.int .i64 t.op,.string (Oo t.sort),.string (Oo t.text),.int .i64 t.a,.int .i64 t.b,.slice qk t.kids.length dk]/\Bx W A [.int .i64 t.op,.string (Oo t.sort),.string (Oo t.text),.int .i64 t.a,.int .i64 t.b,.string (Oo (Ei t.kids))]/\W.ownsRow base 55 6 (.slice q0 T.length d0) T.length xs/\Nk W tb nT T/\KM W gb n2 g2/\Kg W (.slice qk t.kids.length dk) t.kids):=fun W hW=>by
  have b9:Up w2 W:=G.o.trans (hW.mono G.o.size);exact⟨a7.o.box.bl a7.o.box.lt b9,d9.o.bl d9.o.lt b9,l4.o.bl l4.o.lt hW,own_other' n0.o (fun g hg=>b9.block g (n0.o.lt g hg).2),j0.o.low b9 j0.o.lt,a7.o.km.low b9 a7.o.km.lt,m7.o.bl b9⟩
 obtain⟨hA,hB,hK,-,p7,-,-⟩:=HC.o W4.drew (Je _ _).drew;obtain⟨c,hc,i7⟩:=Se p7 K.o;rw[HJ.o] at i7;simp only[Option.isSome_none] at i7;unfold S3 at i7;obtain⟨hA,hB,hK,-,-,-,-⟩:=HC.o W4 (Je _ _);have a5:=hA.c7.2.2.2.2.2.1;have a2:=hA.c7.2.2.1;obtain⟨k0,k1,k2,k3,k4,k5⟩:=hK.cs6;clear hA hB hK p7 hc l9 i8
 go_region
 clear i7 k0 k1 k2 k3 k4 k5;obtain⟨hA,hB,hK,-,-,-,hI⟩:=HC.o W4.drew (Je _ _).drew;obtain⟨b0,b1,b2,b3,b4,b5⟩:=HC.o W4 (Je _ _) |>.2.1.cs6;have r7:=Hd hI;clear hA hB hK hI;have z1:decide ((3000:Int)<=(T.length:Int))=false:=dF (by omega)
 go_wp2_with fail
 have j9:=Hd (Sl t (.slice qk t.kids.length dk) W4.drew r7.o (by have:=K.o.kids;omega) K.o.sort K.o.text);unfold Xz at j9;refine j9.o.mono ?_;rintro e w6 ⟨O,n6,M,rfl,Y,d4⟩;obtain⟨w1,t8,e6⟩:=Ed Y;obtain rfl:n6=t.kids.length:=by cases e6;rfl
 clear e6 w1 t8 j9 a2 a5 b0 b1 b2 b3 b4 b5;have I:Hid (Up W4 w6):=⟨d4.os,d4.tape,d4.output,d4.size,d4.block⟩;have k9:Hid (w6.ownsRow W4.heap.size 3 1 (.slice O t.kids.length M) t.kids.length (Nx t.kids)):=Y;clear Y d4;obtain⟨-,hB,-,-,-,-,-⟩:=HC.o w6 I.o;obtain⟨b0,b1,b2,b3,b4,b5⟩:=hB.cs6;obtain⟨f0,f1,f2,f3,f4,f5⟩:=hB.f6;obtain⟨W7,c8⟩:=Oa ((((((w6.setCell ⟨w.heap.size,0,none⟩ (.int .i64 t.op)).setCell ⟨w.heap.size,1,none⟩ (.string (Oo t.sort))).setCell ⟨w.heap.size,2,none⟩ (.string (Oo t.text))).setCell ⟨w.heap.size,3,none⟩ (.int .i64 t.a)).setCell ⟨w.heap.size,4,none⟩ (.int .i64 t.b)).setCell ⟨w.heap.size,5,none⟩ (.slice O t.kids.length M));have s7:=Hd c8;have n9:Hid (Bx W7 w.heap.size [.int .i64 t.op,.string (Oo t.sort),.string (Oo t.text),.int .i64 t.a,.int .i64 t.b,.slice O t.kids.length M]):=by unfold Hid;rw[<-c8];exact (((((hB.set 0 (.int .i64 t.op)).set 1 (.string (Oo t.sort))).set 2 (.string (Oo t.text))).set 3 (.int .i64 t.a)).set 4 (.int .i64 t.b)).set 5 (.slice O t.kids.length M)
 have h7:∀ k,k≠w.heap.size->W7.heap[k]? = w6.heap[k]? := fun k hk=>by rw[<-c8,Jh _ _ _ _ hk,Jh _ _ _ _ hk,Jh _ _ _ _ hk,Jh _ _ _ _ hk,Jh _ _ _ _ hk,Jh _ _ _ _ hk]
 have H7:=Hd h7;have s4:Hid (W7.heap.size=w6.heap.size):=by unfold Hid;rw[<-c8];simp[World.setCell]
 have i1:Below w.heap.size w6 W7:=by rw[<-c8];exact ((((((Je w.heap.size w6).setCell (p:=⟨w.heap.size,0,none⟩) leR (.int .i64 t.op)).setCell (p:=⟨w.heap.size,1,none⟩) leR (.string (Oo t.sort))).setCell (p:=⟨w.heap.size,2,none⟩) leR (.string (Oo t.text))).setCell (p:=⟨w.heap.size,3,none⟩) leR (.int .i64 t.a)).setCell (p:=⟨w.heap.size,4,none⟩) leR (.int .i64 t.b)).setCell (p:=⟨w.heap.size,5,none⟩) leR (.slice O t.kids.length M)
 have l2:Hid (W7.os=w6.os/\W7.tape=w6.tape/\W7.output=w6.output):=⟨i1.os,i1.tape,i1.output⟩;clear i1;clear hB c8 h7
 go_upto_region 1 with fail
 rw[s7.o];clear b0 b1 b2 b3 b4 b5 f0 f1 f2 f3 f4 f5;have e1:Hid (A≠w.heap.size/\kb≠w.heap.size/\tb≠w.heap.size/\gb≠w.heap.size):=by have:=k8.o;have:=e3.o;have:=g6.o;have:=J.o;unfold Hid;omega
 have e4:Bx W7 A [.int .i64 t.op,.string (Oo t.sort),.string (Oo t.text),.int .i64 t.a,.int .i64 t.b,.string (Oo (Ei t.kids))]:=by
  obtain⟨-,-,hK,-,-,-,-⟩:=HC.o w6 I.o;obtain⟨ty,hh⟩:=hK;exact⟨ty,(H7.o A e1.o.1).trans hh⟩
 have r9:=Hd e4;obtain⟨t0,t1,t2,t3,t4,t5⟩:=n9.o.cs6;obtain⟨k0,k1,k2,k3,k4,k5⟩:=e4.cs6;have g1:=e4.fz 1;have g2:=e4.fz 2;clear e4
 go_region
 clear t0 t1 t2 t3 t4 t5 k0 k1 k2 k3 k4 k5 g1 g2
 go_upto_region 1 with fail
 obtain⟨E,d3⟩:=Oa (((W7.setCell ⟨A,1,none⟩ (.string (Oo t.sort))).setCell ⟨A,2,none⟩ (.string (Oo t.text))).drew);rw[d3];have i6:Below A W7 E:=by rw[<-d3];exact (((Je A W7).setCell (p:=⟨A,1,none⟩) leR (.string (Oo t.sort))).setCell (p:=⟨A,2,none⟩) leR (.string (Oo t.text))).drew
 have h8:∀ k,k≠A->E.heap[k]? = W7.heap[k]? := fun k hk=>by
  rw[<-d3]
  show ((W7.setCell ⟨A,1,none⟩ (.string (Oo t.sort))).setCell ⟨A,2,none⟩ (.string (Oo t.text))).heap[k]? = _
  rw[Jh _ ⟨A,2,none⟩ _ _ hk,Jh _ ⟨A,1,none⟩ _ _ hk]
 have p8:Bx E A [.int .i64 t.op,.string (Oo t.sort),.string (Oo t.text),.int .i64 t.a,.int .i64 t.b,.string (Oo (Ei t.kids))]:=by rw[<-d3];exact ((r9.o.set 1 (.string (Oo t.sort))).set 2 (.string (Oo t.text))).drew
 have u6:E.heap.size=W7.heap.size:=by rw[<-d3];simp[World.setCell]
 clear d3;have U:∀ k,k≠A->k≠w.heap.size->E.heap[k]? = w6.heap[k]? := fun k hk hk2=>(h8 k hk).trans (H7.o k hk2);have g7:Hid (kb≠A/\tb≠A/\gb≠A/\w.heap.size≠A):=by have:=k8.o;have:=e3.o;have:=g6.o;have:=J.o;unfold Hid;omega
 obtain⟨o2,-,-,p2,o8,o5,-⟩:=HC.o w6 I.o;have o3:Bx E kb [vS,vF,.slice q0 T.length d0,.map (some sb),.map (some fb),.map (some tb),.map (some gb)]:=by
  obtain⟨ty,hh⟩:=o2;exact⟨ty,(U kb g7.o.1 e1.o.2.1).trans hh⟩
 have p5:Bx E w.heap.size [.int .i64 t.op,.string (Oo t.sort),.string (Oo t.text),.int .i64 t.a,.int .i64 t.b,.slice O t.kids.length M]:=by
  obtain⟨ty,hh⟩:=n9.o;exact⟨ty,(h8 _ g7.o.2.2.2).trans hh⟩
 have p3:E.ownsRow base 55 6 (.slice q0 T.length d0) T.length xs:=own_other' p2 (fun k hk=>U k (fun e=>by have:=(HR.o.lt k hk).2;have:=J.o;omega) (fun e=>by have:=(HR.o.lt k hk).2;omega));have u2:Nk E tb nT T:=o8.at_heap (U tb g7.o.2.1 e1.o.2.2.1);have o6:KM E gb n2 g2:=o5.at_heap (U gb g7.o.2.2.1 e1.o.2.2.2);have z8:A<W4.heap.size:=l4.o.lt;have p0:E.ownsRow W4.heap.size 3 1 (.slice O t.kids.length M) t.kids.length (Nx t.kids):=own_other' k9.o (fun k hk=>U k (fun e=>by have:=Ol k9.o k hk;omega) (fun e=>by have:=Ol k9.o k hk;have:=J.o;have:=G.o.size;omega));have r6:Hid (∀ k,k<w.heap.size->k≠gb->E.heap[k]? = w.heap[k]?):=fun k hk hne=>by rw[U k (by have:=J.o;omega) (by omega),I.o.block k (by have:=J.o;have:=G.o.size;omega),G.o.block k (by have:=J.o;omega),H1.o k hk hne]
 have l3:Hid (E.os=w.os/\E.tape=w.tape/\E.output=w.output):=
  ⟨i6.os.trans (l2.o.1.trans (I.o.os.trans (G.o.os.trans l1.o.1))),i6.tape.trans (l2.o.2.1.trans (I.o.tape.trans (G.o.tape.trans l1.o.2.1))),i6.output.trans (l2.o.2.2.trans (I.o.output.trans (G.o.output.trans l1.o.2.2)))⟩
 have g8:Hid (W4.heap.size<=E.heap.size/\w.heap.size+1<=W4.heap.size):=by have:=s4.o;have:=I.o.size;have:=J.o;have:=G.o.size;unfold Hid;omega
 have j7:=Hd o3;have n1:=Hd p3;have m9:=Hd o6;have l0:=Hd p0;have o0:=Hd p5;obtain⟨D,l7,hD⟩:=u2;have r4:=Hd hD;have r8:=Hd l7.isMap;have j2:E.drew.ownsMap prog 108 (plainElem prog 3) tb nT D:=by
  obtain⟨es,cl,hh,u7⟩:=l7;exact⟨es,cl,hh,u7⟩
 obtain⟨w9,g0,f8,j4⟩:=j2.update NM underlying76 (by unfold maxLen;omega) (Ij K.o) (plainElem_int underlying3 (EA (n:=T.length) (by omega)));unfold S3 at g0;have s3:=Hd f8;have e0:=Hd j4;have c5:=j7.o.cell 5;simp only[Jm,Js] at c5;obtain⟨k0,k1,k2,k3,k4,k5⟩:=p8.cs6;clear i6 h8 p8 u6 U o2 p2 o8 o5 o3 p5 p3 o6 p0 hD l7 j2 f8 j4
 go_region
 clear g0 c5 k0 k1 k2 k3 k4 k5;have V:∀ k,k<E.heap.size->k≠tb->w9.heap[k]? = E.heap[k]? := fun k hk hne=>e0.o.block k hk (fun e=>hne (Option.some.inj e));have m6:=Hd V;have g9:Bx w9 kb [vS,vF,.slice q0 T.length d0,.map (some sb),.map (some fb),.map (some tb),.map (some gb)]:=by
  have e8:=j7.o.lt;obtain⟨ty,hh⟩:=j7.o;exact⟨ty,(V kb e8 (Ne.symm n8.o)).trans hh⟩
 have l8:Bx w9 w.heap.size [.int .i64 t.op,.string (Oo t.sort),.string (Oo t.text),.int .i64 t.a,.int .i64 t.b,.slice O t.kids.length M]:=by
  have e8:=o0.o.lt;obtain⟨ty,hh⟩:=o0.o;exact⟨ty,(V w.heap.size e8 (Ne.symm e1.o.2.2.1)).trans hh⟩
 have p4:w9.ownsRow base 55 6 (.slice q0 T.length d0) T.length xs:=own_other' n1.o (fun k hk=>V k (n1.o.lt k hk).2 (fun e=>n5.o (hk.trans (congrArg some e))));have p1:w9.ownsRow W4.heap.size 3 1 (.slice O t.kids.length M) t.kids.length (Nx t.kids):=own_other' l0.o (fun k hk=>V k (l0.o.lt k hk).2 (fun e=>by have:=Ol l0.o k hk;have:=g8.o;have:=e3.o;omega));have o7:KM w9 gb n2 g2:=m9.o.at_heap (V gb m9.o.lt (Ne.symm hne));have o9:Nk w9 tb (nT+1) (T++[t]):=Nk.put r4.o r8.o K.o HJ.o s3.o;obtain⟨Z,hZ⟩:=Oa w9.heap.size;have A6:kb<Z:=by rw[<-hZ];exact g9.lt
 have A9:w.heap.size<Z:=by rw[<-hZ];exact l8.lt
 have y2:base<=Z:=by omega
 have B2:E.heap.size<=Z:=by rw[<-hZ];exact e0.o.size
 have k1:=g9.cell 2;simp only[Jm,Js] at k1;obtain⟨x0,x1,x2,x3,x4,x5⟩:=l8.cs6;obtain⟨i0,p9,u9,v1,v6⟩:=Rc;have s2:Hid (∀ i u,(Ho (t,.slice O t.kids.length M))[i]? = some u->((w9.alloc (.cells #[.int .i64 t.op,.string (Oo t.sort),.string (Oo t.text),.int .i64 t.a,.int .i64 t.b,.slice O t.kids.length M] 55)).drew).cell? ((⟨Z,0,none⟩:Addr).add i)=some u):=by
  have h:=World.news_of_block (cs:=#[.int .i64 t.op,.string (Oo t.sort),.string (Oo t.text),.int .i64 t.a,.int .i64 t.b,.slice O t.kids.length M]) (t:=55) (fr:=(0,0)) (heap_alloc_new w9 (.cells #[.int .i64 t.op,.string (Oo t.sort),.string (Oo t.text),.int .i64 t.a,.int .i64 t.b,.slice O t.kids.length M] 55));rw[hZ] at h;exact h
 have o4:Bx (w9.alloc (.cells #[.int .i64 t.op,.string (Oo t.sort),.string (Oo t.text),.int .i64 t.a,.int .i64 t.b,.slice O t.kids.length M] 55)).drew kb [vS,vF,.slice q0 T.length d0,.map (some sb),.map (some fb),.map (some tb),.map (some gb)]:=(g9.alloc _).drew;have g4:=Hd o4;have n3:=Hd p4;have a8:=Hd p1;have s0:=Hd o7;have s1:=Hd o9;clear o4 p4 p1 o7 o9 g9 l8 V
 go_wp2
 go_region_law
  ((refine step_append_lies _ (by rfl) _ _ _ (by rfl) base 55 i0 _ 6 80 underlying29 p9 u9 v1 v6 rfl (by omega) (.slice q0 T.length d0) T.length xs (by rfl) ((n3.o.alloc _).drew)
     ⟨Z,0,none⟩ 1 1 (Ho (t,.slice O t.kids.length M)) (by rfl) (by rfl) s2.o (by simp[Ho,Value.oneCell'])
     (by omega) (by unfold maxLen;omega) (by omega) (by simp;omega) (Z+1) (by simp;omega) ?_;intro ga ca wa f9 d j3 q2;have d1:=(d.cell_far ⟨kb,2,none⟩ (by simp;omega) (Ne.symm hrk)).trans (g4.o.cell 2);have d2:=(d.frozen_far ⟨kb,2,none⟩ (by simp;omega) (Ne.symm hrk)).trans (g4.o.fz 2);simp only[Jm,Js] at d1))
 all_goals
  have h6:∀ k,k<Z->k≠kb->some k≠(Value.slice q0 T.length d0).ownBlock->(wa.setCell ⟨kb,2,none⟩ (.slice (some ⟨ga,0,none⟩) (T.length+1) ca)).heap[k]? = w9.heap[k]? := fun k hk h1 h2=>by
   rw[Jh _ _ _ _ h1,d.block k (by simp;omega) h2];exact (Oz w9 _).block k (by omega)
  have q3:Bx wa kb [vS,vF,.slice q0 T.length d0,.map (some sb),.map (some fb),.map (some tb),.map (some gb)]:=by
   have e8:=g4.o.lt;obtain⟨ty,hh⟩:=g4.o;exact⟨ty,(d.block kb e8 (Ne.symm hrk)).trans hh⟩
  have e9:ga≠kb:=fun e=>by
   rcases j3 with h|h
   ·exact hrk (h.trans (congrArg some e))
   omega
  have HE:Hid (AddedT base kb sb fb gb tb n nT S T t vS vF (.slice q0 T.length d0) xs w (wa.setCell ⟨kb,2,none⟩ (.slice (some ⟨ga,0,none⟩) (T.length+1) ca))):=by
   refine⟨⟨_,.slice O t.kids.length M,q3.set 2 _,own_other' f9 (fun k hk=>Jh _ _ _ _ (fun e=>e9 ((Option.some.inj hk).trans e))),?_,fun e=>e9 (Option.some.inj e)⟩,s1.o.at_heap (h6 tb (by have:=e3.o;omega) n8.o (Ne.symm n5.o)),⟨n2,g2,m8.o.1,s0.o.at_heap (h6 gb (by have:=g6.o;omega) (Ne.symm r5.o) (Ne.symm n4.o)),m8.o.2⟩,?_,?_,?_,?_,?_⟩
   ·refine Kh (own_other' a8.o (fun k hk=>h6 k (by have:=(a8.o.lt k hk).2;omega) (fun e=>by have:=Ol a8.o k hk;have:=g8.o;have:=k8.o;omega) (fun e=>?_))) (by have:=g8.o;omega);obtain⟨cs,fz,h1⟩:=Kp a8.o k hk;obtain⟨y7,z6,h2⟩:=Kp n3.o k e.symm;rw[h1] at h2;cases h2
   ·exact d.os.trans (e0.o.os.trans l3.o.1)
   ·exact d.tape.trans (e0.o.tape.trans l3.o.2.1)
   ·exact d.output.trans (e0.o.output.trans l3.o.2.2)
   ·have h1:=d.size;have h2:Z<=wa.heap.size:=by simp at h1;omega
    simp only[World.setCell,Z9];omega
   intro k hk h1 h2 h3 h4;rw[h6 k (by omega) h1 (Ne.symm h4),m6.o k (by have:=g8.o;omega) h2,r6.o k hk h3]
  clear h6 q3 e9 f9 d j3 q2 d1 d2 k1 x0 x1 x2 x3 x4 x5
  go_wp2_with fail
  refine Jg (v:=.tuple #[.int .i64 (T.length:Nat),.int .i64 0]) ?_ rfl ⟨rfl,HE.o⟩;simp[results,results52,go_sem]
end Go.Proofs.YtdmdmgfjpomdbaaGreatDoor
namespace Go.Proofs.YtdmdmgfjpomdbaaGreatDoor
open ChangeShapes WideShapes ChangeAt RowKit
variable {F:List Fn}{S:List (List UInt8)}{T:List Tm}{W W' w w0:World}{b bF fb gb k kb n nF nS nT sb tb:Nat}{num:Tm->Bool}{vF vS vT:Value}
structure BookS (w0:World)(kb sb fb tb gb nS:Nat)(S:List (List UInt8))(vS vT:Value)(W:World):Prop where
 low:Up w0 W
 ids:w0.heap.size<=kb/\w0.heap.size<=sb/\w0.heap.size<=fb/\w0.heap.size<=tb/\w0.heap.size<=gb
 ne:sb≠fb/\sb≠tb/\sb≠gb/\fb≠tb/\fb≠gb/\tb≠gb
 box:Bx W kb [vS,.slice none 0 0,vT,.map (some sb),.map (some fb),.map (some tb),.map (some gb)]
 sr:W.ownsRow (kb+1) 9 1 vS S.length (strsC S)
 tr:K8 W (kb+1) vT []
 sm:Ef W sb nS (Oq S)
 fm:Ef W fb 0 (Od [])
 tm:Nk W tb 0 []
 km:KM W gb 0 (fun _=>none)
structure Book (w0:World)(kb sb fb tb gb n nS nF nT:Nat)(S:List (List UInt8))(F:List Fn)(T:List Tm)(vS vF vT:Value)(bF:Nat)(W:World):Prop where
 low:Up w0 W
 ids:w0.heap.size<=kb/\w0.heap.size<=sb/\w0.heap.size<=fb/\w0.heap.size<=tb/\w0.heap.size<=gb
 ne:sb≠fb/\sb≠tb/\sb≠gb/\fb≠tb/\fb≠gb/\tb≠gb
 box:Bx W kb [vS,vF,vT,.map (some sb),.map (some fb),.map (some tb),.map (some gb)]
 sr:W.ownsRow (kb+1) 9 1 vS S.length (strsC S)
 fr:Ec W bF vF F
 tr:K8 W (kb+1) vT T
 far:kb<bF/\bF<=W.heap.size/\∀ g,vS.ownBlock=some g->g<bF
 sm:Ef W sb nS (Oq S)
 fm:Ef W fb nF (Od F)
 tm:Nk W tb nT T
 km:∃ g,KM W gb n g/\ZM (Oq S) g
theorem Ef.no_cells {f:List UInt8->Option Nat}(h:Ef w b n f){cs:Array Value}{t:TypeId}{fz:Nat×Nat}:w.heap[b]? ≠ some (.cells cs t fz):=fun e=>by
 obtain⟨D,⟨A,j,d,_⟩,_⟩:=h
 rw[d] at e
 cases e
theorem KM.no_cells {g:List UInt8->Option SI}(h:KM w b n g){cs:Array Value}{t:TypeId}{fz:Nat×Nat}:w.heap[b]? ≠ some (.cells cs t fz):=fun e=>by
 obtain⟨D,⟨A,j,d,_⟩,_⟩:=h
 rw[d] at e
 cases e
theorem Nk.no_cells (h:Nk w b n T){cs:Array Value}{t:TypeId}{fz:Nat×Nat}:w.heap[b]? ≠ some (.cells cs t fz):=fun e=>by
 obtain⟨D,⟨A,j,d,_⟩,_⟩:=h
 rw[d] at e
 cases e
theorem Bx.no_smap {g:Nat}{f:List UInt8->Option Nat}{l:List Value}(h:Ef w b n f)(hx:Bx w g l):b≠g:=by
 rintro rfl;obtain⟨t,hx⟩:=hx;exact h.no_cells hx
theorem I3 {base e e' size:Nat}{v:Value}{xs:List Value}(h:w.ownsRow base e size v n xs){cs:Array Value}{fz:Nat×Nat}(hk:w.heap[k]? = some (.cells cs e' fz))(he:e≠e'):v.ownBlock≠some k:=fun e1=>by
 obtain⟨c,f,d⟩:=Kp h k e1
 rw[d] at hk
 cases hk
 exact he rfl
theorem BookS.add {M:List (List UInt8)}(h:BookS w0 kb sb fb tb gb nS S vS vT W)(ha:AddedS (kb+1) kb sb fb nS S M vS vT (.map (some tb)) (.map (some gb)) none 0 0 W W'):∃ vS',BookS w0 kb sb fb tb gb (nS+1) M vS' vT W':=by
 obtain⟨G,E,A,_⟩:=ha.row;have hb:∀ k,k<W.heap.size->k≠kb->k≠sb->vS.ownBlock≠some k->W'.heap[k]? = W.heap[k]? := ha.block;have d:∀ g,vS.ownBlock=some g->kb+1<=g:=Ol h.sr;refine⟨G,⟨?_,h.ids,h.ne,E,A,?_,ha.names,?_,?_,?_⟩⟩
 ·refine⟨ha.os.trans h.low.os,ha.tape.trans h.low.tape,ha.output.trans h.low.output,Yc h.low.size ha.size,fun k hk=>?_⟩;have I:=h.low.size;have h2:=h.ids;rw[hb k (by omega) (by omega) (by omega) (fun e=>by have:=d k e;omega)];exact h.low.block k hk
 ·refine h.tr.keep fun g cs fz hg hge=>?_;have j:g<W.heap.size:=by rcases hg with hg|hg<;>exact (Jv.1 hg).1
  refine hb g j (by omega) (fun e=>?_) ?_
  ·subst e
   rcases hg with hg|hg<;>exact h.sm.no_cells hg
  rcases hg with hg|hg
  ·exact I3 h.sr hg (by decide)
  exact I3 h.sr hg (by decide)
 ·exact h.fm.at_heap (hb fb h.fm.lt (Bx.no_smap h.fm h.box) (Ne.symm h.ne.1) (Iz h.sr h.fm))
 ·exact h.tm.at_heap (hb tb h.tm.lt (Tf h.tm h.box) (Ne.symm h.ne.2.1) (Rz h.sr h.tm))
 exact h.km.at_heap (hb gb h.km.lt (fun e=>OS h.km (h.box.cell 0) e.symm) (Ne.symm h.ne.2.2.1) (D9 h.sr h.km))
theorem BookS.all (h:BookS w0 kb sb fb tb gb nS S vS vT W):Book w0 kb sb fb tb gb 0 nS 0 0 S [] [] vS (.slice none 0 0) vT W.heap.size W:=
 ⟨h.low,h.ids,h.ne,h.box,h.sr,⟨[],rfl,⟨rfl,.inl ⟨rfl,rfl⟩⟩,(fun x hx=>by cases hx),List.Pairwise.nil⟩,h.tr,⟨h.box.lt,leR,fun g hg=>(h.sr.lt g hg).2⟩,h.sm,h.fm,h.tm,_,h.km,fun s x hx=>by cases hx⟩
theorem Book.bk (h:Book w0 kb sb fb tb gb n nS nF nT S F T vS vF vT bF W)(hS:nS<=1000)(hF:nF<=1000)(hE:EV w0)(hR:RT w0):∃ g,BK W kb sb fb gb n S F T vS vF vT (.map (some tb)) g:=by
 obtain⟨g,d,h2⟩:=h.km;exact⟨g,h.box,h.sm.to hS,h.fm.to hF,h.fr.at,h.tr.at,d,h2,hE.keep (Below.keep h.low),hR.keep (Below.keep h.low),h.ne.2.2.1,h.ne.2.2.2.2.1⟩
theorem Hb {α:Type}{X:List (α×Value)}{y:α×Value}(h:X.Pairwise Nq)(hy:∀ x∈X,Nq x y):(X++[y]).Pairwise Nq:=by
 rw[List.pairwise_append];exact⟨h,List.pairwise_singleton _ _,fun x hx z hz=>by obtain rfl:=Zv.1 hz;exact hy x hx⟩
theorem Book.addF (h:Book w0 kb sb fb tb gb n nS nF nT S F T vS vF vT bF W){X:List (Fn×Value)}{f:Fn}(hX:X.map Prod.fst=F)(hr:W.ownsRow bF 45 3 vF F.length (X.flatMap funC))(hA:(∀ x∈X,W.ownsRow bF 9 1 x.2 x.1.args.length (strsC x.1.args))/\X.Pairwise Nq)
 (ha:AddedF bF kb sb fb gb n nF S F f vS vF vT (.map (some tb)) (X.flatMap funC) W W'):∃ vF' n',n'<=n+6/\Book w0 kb sb fb tb gb n' nS (nF+1) nT S (F++[f]) T vS vF' vT bF W':=by
 obtain⟨Y,va,hx,O,E,_⟩:=ha.row;obtain⟨n',U,K,G,M⟩:=ha.kinds;obtain⟨Z,I,-⟩:=h.km;have hb:∀ k,k<W.heap.size->k≠kb->k≠fb->k≠gb->vF.ownBlock≠some k->W'.heap[k]? = W.heap[k]? := ha.block;have J:∀ g,vF.ownBlock=some g->bF<=g:=Ol hr;have A:=h.far;have d:∀ g cs ty fz,W.heap[g]? = some (.cells cs ty fz)->ty≠45->g≠kb->W'.heap[g]? = W.heap[g]? := fun g cs ty fz hg ht hne=>
  hb g (Jv.1 hg).1 hne (fun e=>h.fm.no_cells (e ▸ hg)) (fun e=>I.no_cells (e ▸ hg)) (I3 hr hg (Ne.symm ht))
 refine⟨Y,n',K,⟨?_,h.ids,h.ne,hx,?_,⟨X++[(f,va)],?_,?_,?_,Hb hA.2 (fun x hx b hb e=>by have V:=((hA.1 x hx).lt b hb).2;have h2:=Ol E b e;omega)⟩,?_,⟨A.1,Yc A.2.1 ha.size,A.2.2⟩,?_,ha.names,?_,U,G,M⟩⟩
 ·refine⟨ha.os.trans h.low.os,ha.tape.trans h.low.tape,ha.output.trans h.low.output,Yc h.low.size ha.size,fun k hk=>?_⟩;have V:=h.low.size;have h2:=h.ids;rw[hb k (by omega) (by omega) (by omega) (by omega) (fun e=>by have:=J k e;omega)];exact h.low.block k hk
 ·refine own_other' h.sr fun g hg=>?_;obtain⟨c,fz,hc⟩:=Kp h.sr g hg;exact d g c _ fz hc (by decide) (by have:=Ol h.sr g hg;omega)
 ·rw[Yr,hX];rfl
 ·rw[Zs,Yn]
  simpa using O
 ·intro x j
  rcases Zm.1 j with j|j
  ·refine own_other' (hA.1 x j) fun g hg=>?_;obtain⟨c,fz,hc⟩:=Kp (hA.1 x j) g hg;exact d g c _ fz hc (by decide) (by have:=Ol (hA.1 x j) g hg;omega)
  obtain rfl:=Zv.1 j;exact Kh E A.2.1
 ·refine h.tr.keep fun g cs fz hg hge=>?_
  rcases hg with hg|hg
  ·exact d g cs _ fz hg (by decide) (by omega)
  exact d g cs _ fz hg (by decide) (by omega)
 ·exact h.sm.at_heap (hb sb h.sm.lt (Bx.no_smap h.sm h.box) h.ne.1 h.ne.2.2.1 (Iz hr h.sm))
 exact h.tm.at_heap (hb tb h.tm.lt (Tf h.tm h.box) (Ne.symm h.ne.2.2.2.1) h.ne.2.2.2.2.2 (Rz hr h.tm))
theorem Book.addT (h:Book w0 kb sb fb tb gb n nS nF nT S F T vS vF vT bF W){X:List (Tm×Value)}{t:Tm}(hX:X.map Prod.fst=T)(hr:W.ownsRow (kb+1) 55 6 vT T.length (X.flatMap Ho))(hA:(∀ x∈X,W.ownsRow (kb+1) 3 1 x.2 x.1.kids.length (Nx x.1.kids))/\X.Pairwise Nq)
 (ha:AddedT (kb+1) kb sb fb gb tb n nT S T t vS vF vT (X.flatMap Ho) W W'):∃ vT' n',n'<=n+60/\Book w0 kb sb fb tb gb n' nS nF (nT+1) S F (T++[t]) vS vF vT' bF W':=by
 obtain⟨Z,va,hx,O,E,_⟩:=ha.row;obtain⟨n',U,K,G,M⟩:=ha.kinds;obtain⟨g0,I,-⟩:=h.km;have hb:∀ k,k<W.heap.size->k≠kb->k≠tb->k≠gb->vT.ownBlock≠some k->W'.heap[k]? = W.heap[k]? := ha.block;have J:∀ g,vT.ownBlock=some g->kb+1<=g:=Ol hr;have A:=h.far;have Y:=h.box.lt;have d:∀ g cs ty fz,W.heap[g]? = some (.cells cs ty fz)->ty≠55->g≠kb->W'.heap[g]? = W.heap[g]? := fun g cs ty fz hg ht hne=>
  hb g (Jv.1 hg).1 hne (fun e=>h.tm.no_cells (e ▸ hg)) (fun e=>I.no_cells (e ▸ hg)) (I3 hr hg (Ne.symm ht))
 refine⟨Z,n',K,⟨?_,h.ids,h.ne,hx,?_,?_,⟨X++[(t,va)],?_,?_,?_,Hb hA.2 (fun x hx b hb e=>by have V:=((hA.1 x hx).lt b hb).2;have h2:=Ol E b e;omega)⟩,⟨A.1,Yc A.2.1 ha.size,A.2.2⟩,?_,?_,ha.terms,U,G,M⟩⟩
 ·refine⟨ha.os.trans h.low.os,ha.tape.trans h.low.tape,ha.output.trans h.low.output,Yc h.low.size ha.size,fun k hk=>?_⟩;have V:=h.low.size;have h2:=h.ids;rw[hb k (by omega) (by omega) (by omega) (by omega) (fun e=>by have:=J k e;omega)];exact h.low.block k hk
 ·refine own_other' h.sr fun g hg=>?_;obtain⟨c,fz,hc⟩:=Kp h.sr g hg;exact d g c _ fz hc (by decide) (by have:=Ol h.sr g hg;omega)
 ·refine h.fr.keep fun g cs fz hg hge=>?_
  rcases hg with hg|hg
  ·exact d g cs _ fz hg (by decide) (by omega)
  exact d g cs _ fz hg (by decide) (by omega)
 ·rw[Yr,hX];rfl
 ·rw[Zs,Yn]
  simpa using O
 ·intro x j
  rcases Zm.1 j with j|j
  ·refine own_other' (hA.1 x j) fun g hg=>?_;obtain⟨c,fz,hc⟩:=Kp (hA.1 x j) g hg;exact d g c _ fz hc (by decide) (by have:=Ol (hA.1 x j) g hg;omega)
  obtain rfl:=Zv.1 j;exact Kh E (by omega)
 ·exact h.sm.at_heap (hb sb h.sm.lt (Bx.no_smap h.sm h.box) h.ne.2.1 h.ne.2.2.1 (Iz hr h.sm))
 exact h.fm.at_heap (hb fb h.fm.lt (Bx.no_smap h.fm h.box) h.ne.2.2.2.1 h.ne.2.2.2.2.1 (Iz hr h.fm))
def addP (S:List (List UInt8))(num:Tm->Bool)(F:List Fn)(T:List Tm)(i:Nat):Bool:=match T[i]? with
 | none=>true
 | some t=>Hy (Ov (Oc (Oq S))) num F (Od F) (T.take i) t&&(Xt (T.take i) t).isNone
def Hf (S:List (List UInt8))(num:Tm->Bool)(F:List Fn)(T:List Tm):Bool:=decide (T.length<=3000)&&decide (S.length+F.length<=300)&&Ha (S++F.map (·.name))&&F.all (K4 (Oc (Oq S)))&&(List.range T.length).all (addP S num F T)
theorem seek_idx (T:List Tm)(t:Tm):decide (G9 T t<0)=(Xt T t).isNone:=by
 unfold G9 Xt
 cases T.findIdx? (fun u=>SG u t) with
 | none=>rfl
 | some i=>simp
theorem QY:∀ r∈rules,r.sort≠0:=by decide
theorem ER {rd:List UInt8->SI}{f2:List UInt8->Option Nat}{t:Tm}(h:Hy rd num F f2 T t=true):(rd t.sort).kind≠0:=by
 unfold Hy at h
 cases j:E5 t.op with
 | none=>rw[j] at h;cases h
 | some r=>
   rw[j] at h;simp only[J3] at h;have d:=h.1.1.1.2;have A:=QY r (Rv j);unfold O7 at d
   split at d
   ·simpa using d
   split at d
   ·simp only[Uu,Yi] at d;omega
   simp only[Yi] at d;omega
theorem QF {i:Nat}{x:Int}(h:0<=x/\x<(i:Int)):Ke (T.take i) x=Ke T x:=by
 unfold Ke;rw[List.getElem?_take_of_lt (by omega)]
theorem DV {i:Nat}(hi:i<=T.length)(t:Tm):U6 S num F T i t=Sv (Ov (Ok S)) num F (T.take i) t:=by
 unfold U6 Sv;rw[J4,Zo hi]
 cases J:K5 t
 ·rfl
 cases I:Xp i t
 ·rfl
 simp only[Zd];have hx:∀ x∈t.kids,Ke (T.take i) x=Ke T x:=fun x hx=>QF (by simpa using Jt.1 I x hx);have G:Nu (T.take i) t=Nu T t:=by
  unfold Nu;exact List.map_congr_left (fun x hx'=>by rw[hx x hx'])
 rw[G];have hl:=(O9 J).1;unfold Na
 by_cases d:t.op=16
 ·have E:Ke (T.take i) (t.kids.headD 0)=Ke T (t.kids.headD 0):=by
   cases A:t.kids with
   | nil=>rw[A,d] at hl;exact absurd hl (by decide)
   | cons x r=>exact hx x (by rw[A];simp)
  rw[E]
  split<;>first|rfl|(exfalso;omega)|skip
  all_goals (repeat (first|rfl|split))
  all_goals (first|rfl|(exfalso;omega))
 by_cases j:t.op=21∨t.op=22
 ·have h2:2<=t.kids.length:=by rcases j with h|h<;>(rw[h] at hl;exact hl)
  have E:Ke (T.take i) ((t.kids[1]?).getD 0)=Ke T ((t.kids[1]?).getD 0):=by
   rw[Jd (by omega)];exact hx _ (Jo _)
  rw[E];rw[if_neg d,if_neg d]
 rw[if_neg d,if_neg d,if_neg j,if_neg j]
theorem VM {L M:List (List UInt8)}(h:Ha (L++M)=true):∀ n∈L,Ni n=true:=by
 intro n hn;obtain⟨j,d,rfl⟩:=J6 hn;unfold Ha at h;have:=Jt.1 h j (Y5.2 (by rw[Yn];omega));rw[List.getElem?_append_left d,Jd d] at this;simp only[J3] at this;exact this.1
theorem VS {own:List UInt8->Bool}{f:Fn}(h:K4 own f=true):(Ov own f.sort).kind≠0:=by
 unfold K4 at h;simp only[J3,Yi] at h;exact h.1.2
theorem PK (S:List (List UInt8))(num:Tm->Bool)(F:List Fn)(T:List Tm)(hnum:∀ own t,num t=true->(Ov own t.sort).kind=2∨(Ov own t.sort).kind=3):Hf S num F T=Gn S num F T:=by
 unfold Hf Gn Gk
 by_cases I:¬ T.length<=3000
 ·rw[Jc I];rfl
 have I:=Decidable.not_not.1 I;rw[Ja I];simp only[Zd]
 by_cases h2:¬ S.length+F.length<=300
 ·rw[Jc h2];rfl
 have h2:=Decidable.not_not.1 h2;rw[Ja h2];simp only[Zd]
 cases h3:Ha (S++F.map (·.name))
 ·rfl
 simp only[Zd];have d:=YD (VM h3);rw[d]
 cases h4:F.all (K4 (Ok S))
 ·rfl
 simp only[Zd];have K:∀ f∈F,(Ov (Ok S) f.sort).kind≠0:=fun f hf=>VS (Jt.1 h4 f hf);have G:∀ i,(∀ j,j<i->addP S num F T j=true)->i<T.length->addP S num F T i=(match T[i]? with|none=>true|some t=>U6 S num F T i t&&decide (G9 (T.take i) t<0)):=by
  intro i O E;have M:∀ u∈T.take i,(Ov (Ok S) u.sort).kind≠0:=by
   intro u U;obtain⟨j,hj,rfl⟩:=J6 U;rw[J4] at hj;have:=O j (by omega);unfold addP at this;rw[Jd (by omega),d] at this;simp only[J3] at this;rw[List.getElem_take];exact ER this.1
  unfold addP;rw[Jd E,d];simp only;rw[AK (KG _) M K rfl (hnum (Ok S)),DV (by omega),seek_idx]
 rw[Yd,Jt,Jt];constructor
 ·intro h i E;have A:=Y5.1 E;exact (G i (fun j hj=>h j (Y5.2 (by omega))) A).symm.trans (h i E)
 intro h i E;have A:=Y5.1 E;have:∀ k,k<=T.length->∀ j,j<k->addP S num F T j=true:=by
  intro k
  induction k with
  | zero=>intro _ j hj;exact absurd hj (J2 _)
  | succ k ih=>
    intro V j hj
    rcases J1.1 hj with J|rfl
    ·exact ih (by omega) j J
    exact (G j (ih (by omega)) (by omega)).trans (h j (Y5.2 (by omega)))
 exact this T.length leR i A
theorem OI (A B:List (List UInt8))(s:List UInt8):Ok (A++B) s=(Ok A s||Ok B s):=by
 unfold Ok;rw[Yd];simp
theorem VQ (F:List Fn)(n:List UInt8):(Od F n).isSome=Ok (F.map (·.name)) n:=by rw[Rd,idxF_some]
theorem Xv (A:List (List UInt8))(B:List Fn)(s:List UInt8):Ee (Oq A) (Od B) s=!(Ni s&&!Ok (A++B.map (·.name)) s):=by
 unfold Ee;rw[idxF_some,VQ,OI]
 cases Ni s<;>cases Ok A s<;>cases Ok (B.map (·.name)) s<;>rfl
theorem C2 (h:Ha (S++F.map (·.name))=false):Hf S num F T=false:=by
 unfold Hf;rw[h];simp
theorem VJ (hk:k<S.length)(h:Ee (Oq (S.take k)) (Od []) S[k]=true):Hf S num F T=false:=by
 refine C2 (freshL_no (i:=k) (by rw[Yn];omega) ?_);rw[Xv] at h;rw[V9 hk,Z1 (by omega)];rw[V4,Vt,List.append_nil] at h;exact h
theorem VW (hk:k<F.length)(h:Ee (Oq S) (Od (F.take k)) F[k].name=true):Hf S num F T=false:=by
 refine C2 (freshL_no (i:=S.length+k) (by rw[Yn,Zy];omega) ?_);rw[Xv] at h;rw[Vy (by omega)];simp only[Vp,Za,List.take_length_add_append,<-List.map_take];rw[V4] at h;exact h
theorem IU (hk:k<F.length)(h:K4 (Oc (Oq S)) F[k]=false):Hf S num F T=false:=by
 have:F.all (K4 (Oc (Oq S)))=false:=by
  rw[J8];intro ha;rw[Jt.1 ha _ (Jo hk)] at h;cases h
 unfold Hf;rw[this];simp
theorem Lx (hk:k<T.length)(h:addP S num F T k=false):Hf S num F T=false:=by
 have:(List.range T.length).all (addP S num F T)=false:=by
  rw[J8];intro ha;rw[Jt.1 ha _ (Y5.2 hk)] at h;cases h
 unfold Hf;rw[this,Y1]
theorem IK (h1:T.length<=3000)(h2:S.length+F.length<=300)(h3:∀ j (h:j<S.length),Ee (Oq (S.take j)) (Od []) S[j]=false)(h4:∀ j (h:j<F.length),Ee (Oq S) (Od (F.take j)) F[j].name=false/\K4 (Oc (Oq S)) F[j]=true)(h5:∀ j,j<T.length->addP S num F T j=true):Hf S num F T=true:=by
 unfold Hf;rw[Ja h1,Ja h2];simp only[Zd,J3];refine⟨⟨?_,?_⟩,?_⟩
 ·unfold Ha;refine Jt.2 fun i hi=>?_;have hi:=Y5.1 hi;rw[Jd hi];simp only
  by_cases d:i<S.length
  ·have:=h3 i d;rw[Xv] at this;rw[V9 d,Z1 (by omega)]
   simpa using this
  rw[Yn,Zy] at hi;have:=(h4 (i - S.length) (by omega)).1;rw[Xv] at this;obtain⟨k,rfl⟩:∃ k,i=S.length+k:=⟨i - S.length,by omega⟩;rw[Vy (by omega)];simp only[Vp,Za,List.take_length_add_append,<-List.map_take] at this ⊢
  simpa using this
 ·refine Jt.2 fun f hf=>?_;obtain⟨j,A,rfl⟩:=J6 hf;exact (h4 j A).2
 exact Jt.2 fun i hi=>h5 i (Y5.1 hi)
theorem QO:∀ r∈rules,r.most<=50:=by decide
theorem CG {rd:List UInt8->SI}{f2:List UInt8->Option Nat}{t:Tm}(h:Hy rd num F f2 T t=true)(hT:T.length<=3000)(ho:(Lit.int .i64 t.op).wf=true)(ha:(Lit.int .i64 t.a).wf=true)(hb:(Lit.int .i64 t.b).wf=true)(hs:t.sort.length<=1048576)(hx:t.text.length<=1048576):WfT t:=by
 unfold Hy at h
 cases d:E5 t.op with
 | none=>rw[d] at h;cases h
 | some r=>
   rw[d] at h;simp only[J3,Yi] at h;have j:=QO r (Rv d);refine⟨ho,ha,hb,hs,hx,by omega,fun x hx=>?_⟩;have:=Jt.1 h.1.1.1.1.2 x hx;rw[Yi] at this;omega
end Go.Proofs.YtdmdmgfjpomdbaaGreatDoor
namespace Go.Proofs.YtdmdmgfjpomdbaaGreatDoor
open ChangeShapes WideShapes ChangeAt RowKit Proofs.Tryz
variable {W:World}{b:Nat}
theorem LZ (n:Int)(w:World):(Instr.makeMap 75 (some (.int .i64 n))).run prog w=.ok (.map (some w.heap.size)) (w.alloc (.map #[] 0)):=by
 simp[Instr.makeMap,go_sem]
theorem LV (n:Int)(w:World):(Instr.makeMap 76 (some (.int .i64 n))).run prog w=.ok (.map (some w.heap.size)) (w.alloc (.map #[] 0)):=by
 simp[Instr.makeMap,go_sem]
structure Made (w:World)(kb sb fb tb gb:Nat)(W:World):Prop where
 low:Up w W
 ids:w.heap.size<=kb/\w.heap.size<=sb/\w.heap.size<=fb/\w.heap.size<=tb/\w.heap.size<=gb
 ne:sb≠fb/\sb≠tb/\sb≠gb/\fb≠tb/\fb≠gb/\tb≠gb
 box:Bx W kb [.slice none 0 0,.slice none 0 0,.slice none 0 0,.map (some sb),.map (some fb),.map (some tb),.map (some gb)]
 s:W.heap[sb]? = some (.map #[] 0)
 f:W.heap[fb]? = some (.map #[] 0)
 t:W.heap[tb]? = some (.map #[] 0)
 g:W.heap[gb]? = some (.map #[] 0)
theorem Ex {w w':World}(h:Up w w')(o:Obj):Up w (w'.alloc o):=h.alloc h.size _
theorem LY (W1:World)(i j k l:Nat)(hi:W1.heap.size<=i/\i<W1.heap.size+4)(hj:W1.heap.size<=j/\j<W1.heap.size+4)(hk:W1.heap.size<=k/\k<W1.heap.size+4)(hl:W1.heap.size<=l/\l<W1.heap.size+4)(hne:i≠j/\i≠k/\i≠l/\j≠k/\j≠l/\k≠l) :
 Made W1 (W1.heap.size+1+1+1+1) i j k l (((((W1.alloc (.map #[] 0)).alloc (.map #[] 0)).alloc (.map #[] 0)).alloc (.map #[] 0)).alloc (.cells #[.slice none 0 0,.slice none 0 0,.slice none 0 0,.map (some i),.map (some j),.map (some k),.map (some l)] 79)).drew:=by
 have A:∀ d,W1.heap.size<=d/\d<W1.heap.size+4->(((((W1.alloc (.map #[] 0)).alloc (.map #[] 0)).alloc (.map #[] 0)).alloc (.map #[] 0)).alloc (.cells #[.slice none 0 0,.slice none 0 0,.slice none 0 0,.map (some i),.map (some j),.map (some k),.map (some l)] 79)).drew.heap[d]? = some (.map #[] 0):=by
  intro d E
  show ((((((W1.heap.push _).push _).push _).push _).push _)[d]?)=_
  simp only[Array.getElem?_push,Array.size_push];rw[if_neg (by omega)]
  repeat' split
  all_goals first|rfl|(exfalso;omega)
 refine⟨?_,⟨by omega,hi.1,hj.1,hk.1,hl.1⟩,hne,?_,A i hi,A j hj,A k hk,A l hl⟩
 ·exact (Ex (Ex (Ex (Ex (Ex (Je _ _) _) _) _) _) _).drew
 have h:=Oi ((((W1.alloc (.map #[] 0)).alloc (.map #[] 0)).alloc (.map #[] 0)).alloc (.map #[] 0)) [.slice none 0 0,.slice none 0 0,.slice none 0 0,.map (some i),.map (some j),.map (some k),.map (some l)] 79;have e:((((W1.alloc (.map #[] 0)).alloc (.map #[] 0)).alloc (.map #[] 0)).alloc (.map #[] 0)).heap.size=W1.heap.size+1+1+1+1:=by simp
 rw[e] at h;exact h.drew
theorem Tu {P:Program}{k:TypeId}{R:Value->Option (DataW Unit×List MemPlace)}(h:W.heap[b]? = some (.map #[] 0)):W.ownsMap P k R b 0 (.map []):=by
 obtain⟨E,A,d,j⟩:=World.ownsMap_made (H:=Unit) W P k R;rw[heap_alloc_new] at d;cases d;exact⟨_,_,h,j⟩
theorem Ef.new (h:W.heap[b]? = some (.map #[] 0)):Ef W b 0 (Oq []):=⟨_,Tu h,fun _=>⟨rfl,fun i hi=>by cases hi⟩⟩
theorem Nk.new (h:W.heap[b]? = some (.map #[] 0)):Nk W b 0 []:=⟨_,Tu h,fun _ _=>⟨rfl,fun i hi=>by cases hi⟩⟩
theorem KM.new (h:W.heap[b]? = some (.map #[] 0)):KM W b 0 (fun _=>none):=⟨_,Tu h,fun _=>⟨rfl,rfl⟩⟩
theorem Made.begin {w:World}{kb sb fb tb gb:Nat}{W2:World}{vT:Value}(h:Made w kb sb fb tb gb W)(hg:W.grownBy W2 none)(hr:W2.ownsRow (kb+1) 55 6 vT 0 []):BookS w kb sb fb tb gb 0 [] (.slice none 0 0) vT (W2.setCell ⟨kb,2,none⟩ vT):=by
 have hb:∀ k,k<W.heap.size->W2.heap[k]? = W.heap[k]? := fun k hk=>hg.block k hk (fun e=>by cases e);have hx:Bx W2 kb [.slice none 0 0,.slice none 0 0,.slice none 0 0,.map (some sb),.map (some fb),.map (some tb),.map (some gb)]:=by
  have A:=h.box.lt;obtain⟨I,j⟩:=h.box;exact⟨I,(hb kb A).trans j⟩
 have G:∀ k,k≠kb->(W2.setCell ⟨kb,2,none⟩ vT).heap[k]? = W2.heap[k]? := fun k hk=>Jh W2 ⟨kb,2,none⟩ _ k hk;have d:∀ k:Nat,W.heap[k]? = some (Obj.map #[] 0)->(W2.setCell ⟨kb,2,none⟩ vT).heap[k]? = some (Obj.map #[] 0):=fun k hk=>by
  have E:k≠kb:=by
   rintro rfl;obtain⟨I,j⟩:=h.box;rw[hk] at j;cases j
  rw[G k E,hb k (Jv.1 hk).1];exact hk
 refine⟨?_,h.ids,h.ne,hx.set 2 vT,⟨rfl,.inl ⟨rfl,rfl⟩⟩,⟨[],rfl,own_other' hr (fun g hgk=>G g (fun e=>by have:=Ol hr g hgk;omega)),(fun x hx=>by cases hx),List.Pairwise.nil⟩,Ef.new (d sb h.s),Ef.new (d fb h.f),Nk.new (d tb h.t),KM.new (d gb h.g)⟩;have J:=h.low.size;have h2:=h.ids;have h3:=hg.size;refine⟨hg.os.trans h.low.os,hg.tape.trans h.low.tape,hg.output.trans h.low.output,?_,fun k hk=>?_⟩
 ·simp only[World.setCell,Z9];omega
 rw[G k (by omega),hb k (by omega),h.low.block k hk]
end Go.Proofs.YtdmdmgfjpomdbaaGreatDoor
