import Derived.Test.YtdmdmgfjpomdbaaGreatDoorP00
import Derived.Test.YtdmdmgfjpomdbaaGreatDoorP31
import Derived.Test.YtdmdmgfjpomdbaaGreatDoorP29
import Derived.Deep.RegionHeld3
import Derived.DeepKeys4
import Derived.Test.YtdmdmgfjpomdbaaGreatDoorP30
import Derived.Test.YtdmdmgfjpomdbaaGreatDoorP21
set_option maxRecDepth 100000
set_option maxHeartbeats 8000000
namespace Go.Proofs.YtdmdmgfjpomdbaaGreatDoor
open ChangeShapes WideShapes ChangeAt RowKit Proofs.Tryz
variable {F:List Fn}{S:List (List UInt8)}{T:List Tm}{W w w':World}{b base fb gb kb n sb:Nat}{g:List UInt8->Option SI}{v v5 vF vS vT:Value}
theorem step_appS {ops:Array Oper}{o:Oper}{a:Act}{K:Act->World->Prop}{Q:Exit->Act->World->Prop}{E:Prop}{W:World}{t:ByteArray}{base n:Nat}{v:Value}{xs:List Value}(hgd:o.guard=none)(s y:Operand)
 (ho:o.op=.call { callee:=.builtin .append,args:=#[s,y],argTypes:=#[22,22] }) (hs:a.eval s=v) (hown:W.ownsRow base 9 1 v n xs)
 (hx:a.eval y=.slice (some ⟨W.heap.size,0,none⟩) 1 1) (hn:n<=1000000000) (hbase:base<=W.heap.size)
 (h:∀ g cap W',W'.ownsRow base 9 1 (.slice (some ⟨g,0,none⟩) (n+1) cap) (n+1) (xs++[.string t])->(W.alloc (.cells #[.string t] 9)).grownBy W' v.ownBlock->K (a.put o.dst (.slice (some ⟨g,0,none⟩) (n+1) cap)) W') :
 if Region.wanted o (yielded ops a.tmps)=true then Oper.wp prog o a (W.alloc (.cells #[.string t] 9)) K Q else E:=by
 obtain⟨i0,d,j,A,G⟩:=Q8;refine step_append_lies _ hgd s y 22 ho base 9 i0 (.string ⟨#[]⟩) 1 16 underlying22 d j A G rfl (by decide) v n xs hs (hown.alloc _) ⟨W.heap.size,0,none⟩ 1 1 [.string t] hx rfl
  (World.news_of_block (cs:=#[.string t]) (t:=9) (fr:=(0,0)) (heap_alloc_new W _)) (by simp[Value.oneCell']) (by decide) (by unfold maxLen;omega) (by omega) (by simp;omega) _ rfl ?_
 intro g cap W' I h2 _ _;exact h g cap W' I h2
theorem O5 {w3 W':World}(h:Up w3 W)(h':Up W W'):Up w3 W':=h.trans (h'.mono h.size)
theorem RP {l:List Value}{ty:TypeId}(h:Below (W.alloc (.cells l.toArray ty)).drew.heap.size (W.alloc (.cells l.toArray ty)).drew w'):Bx w' W.heap.size l:=(Oi W l ty).drew.bl (Oi W l ty).drew.lt h
theorem Wg {l:List Value}{ty:TypeId}(h:Below (W.alloc (.cells l.toArray ty)).heap.size (W.alloc (.cells l.toArray ty)) w'):Bx w' W.heap.size l:=(Oi W l ty).bl (Oi W l ty).lt h
theorem FJ {N g:Nat}(hb:Below N w W)(hN:N<=g){a b c:Value}:Below N w (((W.setCell ⟨g,0,none⟩ a).setCell ⟨g,1,none⟩ b).setCell ⟨g,2,none⟩ c):=((hb.setCell (p:=⟨g,0,none⟩) hN a).setCell (p:=⟨g,1,none⟩) hN b).setCell (p:=⟨g,2,none⟩) hN c
theorem Wc (f:Fn)(va:Value)(w:World)(hva:O3 w va f.args)(hl:f.args.length<=5)(hzn:f.name.length<=1048576)(hzs:f.sort.length<=1048576)(hz:∀ a∈f.args,a.length<=1048576) :
 Calls prog 69 #[.agg #[.string (Oo f.name),va,.string (Oo f.sort)]] w fun e w'=>∃ p n c,e=.returned (.agg #[.string (Oo f.name),.slice p n c,.string (Oo f.sort)])/\w'.ownsRow w.heap.size 9 1 (.slice p n c) f.args.length (strsC f.args)/\Up w w':=by
 have j3:=Hd hva;obtain⟨pa,ca,rfl,h1,h2,h3⟩:=hva;have HA:=Hd h3;have HZ:=Hd hz;unfold maxLen at h2;clear h3 hz;have e3:(Oo f.name).size<=1048576:=by show f.name.toArray.size<=_;simpa using hzn
 have e4:(Oo f.sort).size<=1048576:=by show f.sort.toArray.size<=_;simpa using hzs
 generalize Oo f.name=t1 at e3 ⊢;generalize Oo f.sort=t2 at e4 ⊢
 go_in
 go_upto_region 1 with fail
 obtain⟨W1,U⟩:=Oa ((w.alloc (.cells #[.string t1,.slice pa f.args.length ca,.string t2] 45)).alloc (.cells #[.string ⟨#[]⟩,.slice none 0 0,.string ⟨#[]⟩] 45));have e9:Hid (Up w W1):=by unfold Hid;rw[<-U];exact ((Je _ _).alloc leR _).alloc (by rw[Jf];omega) _
 have g2:Hid (W1.heap.size=w.heap.size+2):=by unfold Hid;rw[<-U];simp
 have Y:Hid (Bx W1 w.heap.size [.string t1,.slice pa f.args.length ca,.string t2]):=by unfold Hid;rw[<-U];exact (Oi w _ _).alloc _
 have b8:Hid (Bx W1 (w.heap.size+1) [.string ⟨#[]⟩,.slice none 0 0,.string ⟨#[]⟩]):=by unfold Hid;rw[<-U];have h:=Oi (w.alloc (.cells #[.string t1,.slice pa f.args.length ca,.string t2] 45)) [.string ⟨#[]⟩,.slice none 0 0,.string ⟨#[]⟩] 45;rw[Jf] at h;exact h
 rw[U];clear U;have I:Hid (∀ W,Up W1 W->W.cell? ⟨w.heap.size,0,none⟩=some (.string t1)/\W.cell? ⟨w.heap.size,2,none⟩=some (.string t2)):=fun W hW=>by
  have h:=Y.o.bl Y.o.lt hW;exact⟨h.cell 0,h.cell 2⟩
 have h7:=I.o W1 (Je _ _)
 go_cut [3] (fun s3 wx=>∃ gx,s3=.pointer (some ⟨gx,0,none⟩)/\w.heap.size+2<=gx/\Bx wx gx [.string t1,.slice none 0 0,.string t2]/\Up W1 wx)
 case first=>
  go_region_held3 (fun W=>W.cell? ⟨w.heap.size,0,none⟩=some (.string t1)/\W.cell? ⟨w.heap.size,2,none⟩=some (.string t2))
   (first
     | with_reducible exact I.o _ G.o
     | with_reducible exact I.o _ (G.o.alloc G.o.size _)
     | with_reducible exact I.o _ (FJ G.o J.o.size)
     | with_reducible exact I.o _ (FJ G.o leR)
     | with_reducible exact I.o _ J.o
     | with_reducible exact I.o _ (J.o.alloc J.o.size _)
     | with_reducible exact I.o _ (Je _ _).drew
     | with_reducible exact I.o _ (Oz _ _).drew)
   (first
     | (go_at_call 62;refine (N5 t1 _ e3).mono ?_;rintro e w2 ⟨rfl,hb2⟩;have J:Hid (Up W1 w2):=O5 (by first|with_reducible exact (Je _ _).drew|exact (Oz _ _).drew) hb2;try (have c6:=Hd (RP hb2));clear hb2)
     | (go_at_call 62;refine (N5 t2 _ e4).mono ?_;rintro e w3 ⟨rfl,A⟩;have G:Hid (Up W1 w3):=O5 (by first|with_reducible exact J.o|exact J.o.alloc J.o.size _) A;(first|have M:=Hd (Wg A)|have M:=Hd (c6.o.bl c6.o.lt A)|skip);try (have r0:=M.o.cell 0;have r1:=M.o.cell 1;have r2:=M.o.cell 2;have f0:=M.o.fz 0;have f1:=M.o.fz 1;have f2:=M.o.fz 2);clear A))
  all_goals
   go_wp2
   go_meet
   have k9:=g2.o;have h9:=J.o.size;have i6:=G.o.size
   first
    | (have hE:=((M.o.set 0 (.string t1)).set 1 (.slice none 0 0)).set 2 (.string t2);exact⟨_,rfl,by omega,hE,by first|exact FJ G.o h9|exact FJ G.o leR⟩)
    | exact⟨w3.heap.size,rfl,by omega,Oi w3 [.string t1,.slice none 0 0,.string t2] 45,G.o.alloc i6 _⟩
 obtain⟨gx,rfl,k7,a7,Z⟩:=hcut;have d4:=Hd a7;have G:=Hd Z;have g7:=Hd (Y.o.bl Y.o.lt Z);have g8:=Hd (b8.o.bl b8.o.lt Z);have g0:=e9.up Z;have b1:=g7.o.cell 1;simp only[Jm,Js] at b1;clear a7 Z Y b8 h7;obtain⟨W2,rfl⟩:∃ W2,W2=wc:=⟨_,rfl⟩;have V:=Hd d4.o.lt
 go_wp2_with fail
 clear b1
 go_loopw [16] (fun i wr=>∃ k:Nat,k<=f.args.length/\i=.int .i64 (k:Nat)/\∃ p c,Bx wr gx [.string t1,.slice p k c,.string t2]/\wr.ownsRow W2.heap.size 9 1 (.slice p k c) k (strsC (f.args.take k))/\Bx wr (w.heap.size+1) [.string ⟨#[]⟩,.slice none 0 0,.string ⟨#[]⟩]/\Up w wr/\W2.heap.size<=wr.heap.size) (fun i _=>f.args.length - (intOf i).toNat)
 case atStart=>exact⟨0,Jr _,rfl,none,0,d4.o,⟨rfl,.inl ⟨rfl,rfl⟩⟩,g8.o,g0.o,leR⟩
 obtain⟨k,hk,rfl,p,c,a7,b7,e6,d7,e5⟩:=hrel;have O:=Hd a7;have HOWN:=Hd b7;have b3:=Hd e6;have K:=Hd d7;have d2:=Hd e5;clear a7 b7 e6 d7 e5
 by_cases a8:k<f.args.length
 ·rcases HA.o with e0|⟨ba,rfl,h8,d8⟩
  ·rw[e0] at a8;cases a8
  have ck:=(K.o.cell (p:=⟨ba,k,none⟩) h8).trans (d8 k a8);clear d8;have d5:(Oo f.args[k]).size<=1048576:=by
   have:=HZ.o _ (Jo a8)
   show f.args[k].toArray.size<=_
   simpa using this
  obtain⟨ak,b9⟩:=Oa (f.args[k]);have e8:=Hd b9;rw[b9] at ck d5;clear b9;have i0:(0:Int)<=(k:Int):=by omega
  have i1:(k:Int)<(f.args.length:Int):=by omega
  have cr:=O.o.cell 1;simp only[Jm,Js] at cr;have b6:Hid (∀ (g:Nat) (l:List Value) (w3 w5:World),Bx wr g l->Up wr w3->(w3.alloc (.cells #[.string (Oo ak)] 9)).grownBy w5 (Value.slice p k c).ownBlock->g<W2.heap.size->Bx w5 g l):=fun g l w3 w5 hx hb hg hl=>by
   obtain⟨ty,h⟩:=(hx.bl hx.lt hb).alloc (.cells #[.string (Oo ak)] 9);exact⟨ty,(hg.block g (by have:=hx.lt;have:=hb.size;simp;omega) (fun e=>by have:=Ol HOWN.o g e.symm;omega)).trans h⟩
  go_wp2
  go_region_law
   (first
     | (refine step_appS (t:=Oo ak) (n:=k) (base:=W2.heap.size) (v:=.slice p k c) (xs:=strsC (f.args.take k)) (W:=w3) (by rfl) _ _ (by rfl) (by rfl) (own_other' HOWN.o (fun g hg=>d.o.block g (HOWN.o.lt g hg).2)) (by rfl) (by omega) (Yc d2.o d.o.size) ?_;intro g5 c5 w5 E j;have d0:=Hd E;have c8:=Hd j;have b5:Bx w5 gx [.string t1,.slice p k c,.string t2]:=b6.o gx _ w3 w5 O.o d.o j (by have:=V.o;omega);have d1:=b5.cell 1;have e1:=b5.fz 1;simp only[Jm,Js] at d1;have g4:=Hd b5;clear E j b5)
     | (go_simp;refine (N5 (Oo ak) _ d5).mono ?_;rintro e w3 ⟨rfl,A⟩;have d:Hid (Up wr w3):=⟨A.os,A.tape,A.output,A.size,A.block⟩;have c1:w3.cell? ⟨gx,1,none⟩=some (.slice p k c):=(O.o.bl O.o.lt d.o).cell 1;have q3:gx<w3.heap.size:=Jq O.o.lt d.o.size;clear A;go_wp2_with fail))
  all_goals
   have g6:=Hd (b6.o (w.heap.size+1) _ w3 w5 b3.o d.o c8.o (by have:=V.o;omega));have j:=c8.o;have E:=d0.o;have d6:Up w w5:=by
    refine⟨j.os.trans (d.o.os.trans K.o.os),j.tape.trans (d.o.tape.trans K.o.tape),j.output.trans (d.o.output.trans K.o.output),?_,fun q hq=>?_⟩
    ·have h1:=j.size;have h2:=d.o.size;have h3:=K.o.size;rw[Jf] at h1;omega
    have h3:=K.o.size;have h2:=d.o.size;rw[j.block q (by simp;omega) (fun e=>by have:=Ol HOWN.o q e.symm;have:=V.o;omega),(Oz w3 _).block q (by omega),d.o.block q (by omega),K.o.block q hq]
   have d9:W2.heap.size<=w5.heap.size:=by have h1:=j.size;have h2:=d.o.size;have h3:=d2.o;rw[Jf] at h1;omega
   have f8:=Hd d6;have g3:=Hd d9;have g1:Hid (g5≠gx):=fun e=>by have:=Ol E g5 rfl;have:=V.o;omega
   clear d6 d9 E j
   go_wp2
   go_roundw
   case rel=>
    have hC:strsC (f.args.take (k+1))=strsC (f.args.take k)++[.string (Oo ak)]:=by rw[Hj a8,e8.o]
    refine⟨k+1,by omega,by go_num,some ⟨g5,0,none⟩,c5,g4.o.set 1 _,?_,g6.o.other ⟨gx,1,none⟩ (by simp;omega) _,f8.o.setCell (p:=⟨gx,1,none⟩) (by show w.heap.size<=gx;omega) _,by have:=g3.o;simpa[World.setCell] using this⟩;rw[hC];exact own_other' d0.o (fun g hg=>Jh _ _ _ _ (fun e=>g1.o (by cases hg;exact e)))
   simp[intOf];omega
 obtain rfl:k=f.args.length:=by omega
 obtain⟨c0,c1,c2⟩:=O.o.c3;obtain⟨r0,r1,r2⟩:=b3.o.c3;obtain⟨f0,f1,f2⟩:=b3.o.f3;have hq:w.heap.size<=w.heap.size+1:=by omega
 have HE:=Hd (((b3.o.set 0 (.string t1)).set 1 (.slice p f.args.length c)).set 2 (.string t2));have f9:=Hd (((K.o.setCell (p:=⟨w.heap.size+1,0,none⟩) hq (.string t1)).setCell (p:=⟨w.heap.size+1,1,none⟩) hq (.slice p f.args.length c)).setCell (p:=⟨w.heap.size+1,2,none⟩) hq (.string t2));have d3:Hid (w.heap.size+2<=W2.heap.size):=by have:=V.o;unfold Hid;omega
 clear hk
 go_wp2_with fail
 obtain⟨e0,e1,e2⟩:=HE.o.c3;refine Jg (v:=.agg #[.string t1,.slice p f.args.length c,.string t2]) ?_ rfl ⟨p,f.args.length,c,rfl,?_,f9.o⟩
 ·clear c0 c1 c2 r0 r1 r2 f0 f1 f2;simp[results,results69,go_sem,e0,e1,e2]
 have h:=HOWN.o;rw[Yk] at h;refine Kh (own_other' h (fun g hg=>?_)) (by have:=d3.o;omega);have k1:=Ol h g hg;have n1:g≠w.heap.size+1:=by have:=d3.o;omega
 rw[Jh _ _ _ _ n1,Jh _ _ _ _ n1,Jh _ _ _ _ n1]
theorem NM:Maps.Keyed prog 108:=Maps.Keyed.of_law (deep_law (m:=2) (by omega) (by kernel_rfl) (by kernel_rfl) (by kernel_rfl))
def S3 (t:Tm):Value:=.agg #[.int .i64 t.op,.string (Oo t.sort),.string (Oo t.text),.int .i64 t.a,.int .i64 t.b,.string (Oo (Ei t.kids))]
def MO (t:Tm):List Lit:=[.int .i64 t.op,.string t.sort,.string t.text,.int .i64 t.a,.int .i64 t.b,.string (Ei t.kids)]
def L0 (t:Tm):Lit:=.string (keyBytes (MO t))
structure WfT (t:Tm):Prop where
 op:(Lit.int .i64 t.op).wf=true
 a:(Lit.int .i64 t.a).wf=true
 b:(Lit.int .i64 t.b).wf=true
 sort:t.sort.length<=1048576
 text:t.text.length<=1048576
 kids:t.kids.length<=50
 kid:∀ x∈t.kids,0<=x/\x<65536
theorem Ij {t:Tm}(h:WfT t):keyOf prog 108 (S3 t)=some (L0 t):=by
 have d:prog.cellsOf 108=6:=by kernel_rfl
 have j:prog.keyType 108=true:=by kernel_rfl
 unfold keyOf;rw[underlying108];simp only[j,Zd];have G:Value.formed prog 108 (S3 t)=true:=by
  unfold S3 Value.formed;rw[underlying108];simp[d]
 rw[if_pos G];have A:0<prog.types.size:=of_decide_eq_true (by kernel_rfl);obtain⟨m,I⟩:∃ m,prog.types.size=m+1:=⟨prog.types.size - 1,by omega⟩;have c3:prog.cellsOf 3=1:=by kernel_rfl
 have c9:prog.cellsOf 9=1:=by kernel_rfl
 have J:(Oo t.sort).size<=maxLen:=by show t.sort.toArray.size<=_;have:=h.sort;unfold maxLen;simp;omega
 have K:(Oo t.text).size<=maxLen:=by show t.text.toArray.size<=_;have:=h.text;unfold maxLen;simp;omega
 have M:(Oo (Ei t.kids)).size<=maxLen:=by show (Ei t.kids).toArray.size<=_;have:=h.kids;have:=Aa t.kids;unfold maxLen;simp;omega
 have E:=h.op;have h2:=h.a;have h3:=h.b;rw[I];unfold Program.keyLits;rw[underlying108];unfold S3 L0 MO;simp only[Value.cells];simp[d,Program.keyLits,underlying3,underlying9,c3,c9,J,K,M,E,h2,h3,Ou,List.mapM_cons]
theorem BF {x y:Int}(hx:0<=x/\x<65536)(hy:0<=y/\y<65536)(h1:UInt8.ofNat (x.toNat / 256)=UInt8.ofNat (y.toNat / 256))(h2:UInt8.ofNat x.toNat=UInt8.ofNat y.toNat):x=y:=by
 have d:=congrArg UInt8.toNat h1;have e2:=congrArg UInt8.toNat h2;simp only[UInt8.toNat_ofNat'] at d e2;omega
theorem IF:∀ {a b:List Int},(∀ x∈a,0<=x/\x<65536)->(∀ x∈b,0<=x/\x<65536)->Ei a=Ei b->a=b:=by
 intro a
 induction a with
 | nil=>
   intro b _ _ h
   cases b with
   | nil=>rfl
   | cons y r=>exact absurd h (by simp[Ei])
 | cons x r ih=>
   intro b ha hb h
   cases b with
   | nil=>exact absurd h (by simp[Ei])
   | cons y r2=>
     have e:∀ (z:Int) (l:List Int),Ei (z::l)=UInt8.ofNat (z.toNat / 256)::UInt8.ofNat z.toNat::Ei l:=fun z l=>by simp[Ei]
     rw[e,e] at h;simp only[List.cons.injEq] at h;rw[BF (ha x (by simp)) (hb y (by simp)) h.1 h.2.1,ih (fun z hz=>ha z (by simp[hz])) (fun z hz=>hb z (by simp[hz])) h.2.2]
theorem PI {t u:Tm}(ht:WfT t)(hu:WfT u)(h:L0 t=L0 u):t=u:=by
 have d:=NM.inj (Ij ht) (by rw[h];exact Ij hu);unfold S3 at d;simp only[Value.agg.injEq,Array.mk.injEq,List.cons.injEq,Value.int.injEq,Value.string.injEq,true_and,and_true] at d;obtain⟨j,h2,h3,h4,h5,A⟩:=d;exact MK.2 ⟨j,X6 h2,X6 h3,h4,h5,IF ht.kid hu.kid (X6 A)⟩
def Xt (T:List Tm)(t:Tm):Option Nat:=T.findIdx? (fun u=>SG u t)
def Nk (w:World)(b n:Nat)(T:List Tm):Prop:=
 ∃ D:DataW Unit,w.ownsMap prog 108 (plainElem prog 3) b n D/\∀ t,WfT t->Maps.has D (L0 t)=(Xt T t).isSome/\∀ i,Xt T t=some i->D.atKey (L0 t) (.lit (.int .i64 0))=.lit (.int .i64 (i:Nat))
theorem Nk.low {N:Nat}(h:Nk w b n T)(hb:Below N w w')(hN:b<N):Nk w' b n T:=by
 obtain⟨D,⟨j,d,G,E⟩,A⟩:=h;exact⟨D,⟨j,d,(hb.block b hN).trans G,E⟩,A⟩
theorem IX {s:Tm}(h:Xt T s=none)(t:Tm):Xt (T++[s]) t=if SG t s=true then some T.length else Xt T t:=by
 unfold Xt at h ⊢;rw[List.findIdx?_append]
 by_cases d:t=s
 ·subst d;rw[h,if_pos (SN.2 rfl)];simp[List.findIdx?_cons,SN.2]
 rw[if_neg (fun e=>d (SN.1 e))];have:SG s t=false:=SH.2 fun e=>d e.symm
 cases j:List.findIdx? (fun x=>SG x t) T with
 | none=>simp[List.findIdx?_cons,this]
 | some i=>simp
theorem Nk.put {D:DataW Unit}(hD:∀ t,WfT t->Maps.has D (L0 t)=(Xt T t).isSome/\∀ i,Xt T t=some i->D.atKey (L0 t) (.lit (.int .i64 0))=.lit (.int .i64 (i:Nat)))(hm:Maps.IsMap D){s:Tm}(hw:WfT s)(hs:Xt T s=none)(hown:w.ownsMap prog 108 (plainElem prog 3) b n (D.put (L0 s) (.lit (.int .i64 (T.length:Nat))))):Nk w b n (T++[s]):=by
 have d:=NM.key (Ij hw);refine⟨_,hown,fun t ht=>?_⟩;rw[IX hs]
 by_cases h:t=s
 ·subst h;rw[if_pos (SN.2 rfl)];refine⟨Maps.has_put_same hm d _,fun i hi=>?_⟩;cases hi;exact Maps.atKey_put_same hm d _ _
 rw[if_neg (fun e=>h (SN.1 e))];have j:L0 t≠L0 s:=fun e=>h (PI ht hw e);rw[Maps.has_put_other j,Maps.atKey_put_other j];exact hD t ht
theorem Nk.bar {c:Nat}(h:Nk w b n T)(hb:Bar c w w')(hc:b≠c):Nk w' b n T:=by
 obtain⟨D,⟨E,A,j,I⟩,G⟩:=h;have d:b<w.heap.size:=(Jv.1 j).1;exact⟨D,⟨E,A,(hb.block b d hc).trans j,I⟩,G⟩
theorem Se (h:Nk w b n T){t:Tm}(ht:WfT t):∃ c:Int,(∀ i,Xt T t=some i->c=(i:Nat))/\(Instr.lookup 76 (.map (some b)) (S3 t) true).run prog w=.ok (.tuple #[.int .i64 c,.bool (Xt T t).isSome]) w:=by
 obtain⟨D,d,A⟩:=h;have J:(zeroValue 3).run prog w=.ok (.int .i64 0) w:=rfl;obtain⟨v,K,j,G⟩:=d.look_ok NM underlying76 J (plainElem_int underlying3 (by decide)) (Ij ht);obtain⟨c,rfl,hc,I⟩:=plainElem_int_inv underlying3 G;refine⟨c,fun i hi=>?_,?_⟩
 ·have E:=(A t ht).2 i hi;have h2:=congrArg Prod.fst hc;rw[E] at h2;simp at h2;exact h2.symm
 rw[j,(A t ht).1]
theorem T9 (h:BK w kb sb fb gb n S F T vS vF vT v5 g)(t:Tm)(vk:Value)(hk:Kg w vk t.kids)(num:Tm->Bool)(hT:T.length<=1000000)(hl:t.kids.length<=1048576)(hF:F.length<=1000)(hz:∀ u∈T,u.sort.length<=1048576)(hts:t.sort.length<=1048576)(htx:t.text.length<=1048576)(hn:n<=800000000)
 (hnum:t.op=12->((Ov (Oc (Oq S)) t.sort).kind=2∨(Ov (Oc (Oq S)) t.sort).kind=3)->∀ W,Bar gb w W->Calls prog 110 #[.string (Oo t.sort),.string (Oo t.text)] W fun e w'=>e=.returned (.bool (num t))/\Up W w') (hno:Hy (Ov (Oc (Oq S))) num F (Od F) T t=false) :
 Calls prog 52 #[.pointer (some ⟨kb,0,none⟩),Xz t vk] w fun e w'=>e=.returned (.tuple #[.int .i64 0,.int .i64 5])/\O8 w w' kb sb fb gb n S F T vS vF vT v5 60:=by
 have K:=Hd hk;obtain⟨I,A,rfl,E,G,-⟩:=hk;have M:=Hd h;have j:Hid (Up w (w.alloc (.cells #[.int .i64 t.op,.string (Oo t.sort),.string (Oo t.text),.int .i64 t.a,.int .i64 t.b,.slice I t.kids.length A] 55))):=Oz _ _;have d:=Hd (Qf (h.next (Oz w (.cells #[.int .i64 t.op,.string (Oo t.sort),.string (Oo t.text),.int .i64 t.a,.int .i64 t.b,.slice I t.kids.length A] 55))) t (.slice I t.kids.length A) (K.o.bl j.o) num hT hl hF hz hts htx hn (fun h12 hk W hW=>hnum h12 hk W ((Bar.of j.o).trans hW)));clear h hz hnum E G;rw[hno] at d;unfold Xz at d ⊢
 go_in
 go_wp2_with fail
 refine d.o.mono ?_;rintro e w2 ⟨rfl,ha⟩;have J:=Hd (ha.after j.o);clear ha
 go_wp2_with fail
 refine Jg (v:=.tuple #[.int .i64 0,.int .i64 5]) ?_ rfl ⟨rfl,J.o⟩;simp[results,results52,go_sem]
theorem Ba {tb nT:Nat}(h:BK w kb sb fb gb n S F T vS vF vT (.map (some tb)) g)(htm:Nk w tb nT T)(hne:tb≠gb)(t:Tm)(vk:Value)(hk:Kg w vk t.kids)(num:Tm->Bool)(hT:T.length<=1000000)(hF:F.length<=1000)(hz:∀ u∈T,u.sort.length<=1048576)(hn:n<=800000000)(hwf:WfT t)
 (hnum:t.op=12->((Ov (Oc (Oq S)) t.sort).kind=2∨(Ov (Oc (Oq S)) t.sort).kind=3)->∀ W,Bar gb w W->Calls prog 110 #[.string (Oo t.sort),.string (Oo t.text)] W fun e w'=>e=.returned (.bool (num t))/\Up W w') (hyes:Hy (Ov (Oc (Oq S))) num F (Od F) T t=true) (r1 r2:Int) (hj:(∃ j:Nat,Xt T t=some j/\r1=j/\r2=0)∨(Xt T t=none/\3000<=T.length/\(∃ p c,vT=.slice p T.length c)/\r1=0/\r2=4)) :
 Calls prog 52 #[.pointer (some ⟨kb,0,none⟩),Xz t vk] w fun e w'=>e=.returned (.tuple #[.int .i64 r1,.int .i64 r2])/\O8 w w' kb sb fb gb n S F T vS vF vT (.map (some tb)) 60:=by
 have HI:=Hd hk;obtain⟨qk,dk,rfl,c6,c8,-⟩:=hk;have HH:=Hd h;have HB:Hid (Up w (w.alloc (.cells #[.int .i64 t.op,.string (Oo t.sort),.string (Oo t.text),.int .i64 t.a,.int .i64 t.b,.slice qk t.kids.length dk] 55))):=Oz _ _;have I:Hid (Bx (w.alloc (.cells #[.int .i64 t.op,.string (Oo t.sort),.string (Oo t.text),.int .i64 t.a,.int .i64 t.b,.slice qk t.kids.length dk] 55)) w.heap.size [.int .i64 t.op,.string (Oo t.sort),.string (Oo t.text),.int .i64 t.a,.int .i64 t.b,.slice qk t.kids.length dk]):=Oi _ _ _;have V:=Hd (Qf (h.next (Oz w (.cells #[.int .i64 t.op,.string (Oo t.sort),.string (Oo t.text),.int .i64 t.a,.int .i64 t.b,.slice qk t.kids.length dk] 55))) t (.slice qk t.kids.length dk) (HI.o.bl HB.o) num hT (by have:=hwf.kids;omega) hF hz hwf.sort hwf.text hn (fun h12 hk W hW=>hnum h12 hk W ((Bar.of HB.o).trans hW)));have b9:=Hd (htm.bar (Bar.of (g:=gb) HB.o) hne);have Y:=Hd hwf;have HJ:=Hd hj;clear h hz hnum c6 c8 htm hwf hj;rw[hyes] at V;unfold Xz at V ⊢
 go_in
 go_wp2_with fail
 refine V.o.mono ?_;rintro e w2 ⟨rfl,n2,g2,hn2,M,d⟩;have A:=d.keep (HH.o.next HB.o).km;have b8:=Hd ((HI.o.bl HB.o).keep A);have b5:=Hd M;have b6:=Hd (b9.o.bar d hne);have O:Hid (Bar gb w w2):=(Bar.of HB.o).trans d;have a0:=A.cell _ _ (I.o.cell 0);have a1:=A.cell _ _ (I.o.cell 1);have a2:=A.cell _ _ (I.o.cell 2);have a3:=A.cell _ _ (I.o.cell 3);have a4:=A.cell _ _ (I.o.cell 4);have a5:=A.cell _ _ (I.o.cell 5);clear A M d
 go_wp2_with fail
 refine (Ab t (.slice qk t.kids.length dk) w2 b8.o Y.o.kid Y.o.kids).mono ?_;rintro e w3 ⟨rfl,J⟩;have K:=Hd (b5.o.next J);have U:Hid (Bar gb w w3):=O.o.trans (Bar.of J);obtain⟨c,hc,E⟩:=Se (w:=(w3.alloc (.cells #[.int .i64 t.op,.string (Oo t.sort),.string (Oo t.text),.int .i64 t.a,.int .i64 t.b,.string (Oo (Ei t.kids))] 108)).drew) ((((b6.o.bar (Bar.of (g:=gb) J) hne).bar (Bar.of (g:=gb) (Oz w3 _)) hne)).bar (Bar.refl gb _).drew hne) Y.o;unfold S3 at E;have Z:=(K.o.next (Oz w3 (.cells #[.int .i64 t.op,.string (Oo t.sort),.string (Oo t.text),.int .i64 t.a,.int .i64 t.b,.string (Oo (Ei t.kids))] 108))).box.c7;have a5:=Z.2.2.2.2.2.1;have a6:=Z.2.2.1;have b7:=Oi w3 [.int .i64 t.op,.string (Oo t.sort),.string (Oo t.text),.int .i64 t.a,.int .i64 t.b,.string (Oo (Ei t.kids))] 108;obtain⟨k0,k1,k2,k3,k4,k5⟩:=b7.k6;have G:Hid (O8 w (w3.alloc (.cells #[.int .i64 t.op,.string (Oo t.sort),.string (Oo t.text),.int .i64 t.a,.int .i64 t.b,.string (Oo (Ei t.kids))] 108)).drew kb sb fb gb n S F T vS vF vT (.map (some tb)) 60):=⟨n2,g2,hn2,K.o.next (Oz _ _).drew,(U.o.trans (Bar.of (Oz _ _))).drew⟩;clear J Z a0 a1 a2 a3 a4 b7
 go_wp2_with fail
 generalize w3.alloc (.cells #[.int .i64 t.op,.string (Oo t.sort),.string (Oo t.text),.int .i64 t.a,.int .i64 t.b,.string (Oo (Ei t.kids))] 108)=W4 at E a5 a6 k0 k1 k2 k3 k4 k5 G ⊢
 rcases HJ.o with⟨j,hj,rfl,rfl⟩|⟨hj,d1,⟨pT,cT,rfl⟩,rfl,rfl⟩
 ·obtain rfl:=hc j hj;rw[hj] at E;simp only[Option.isSome_some] at E;clear hc hj
  go_region
  clear E
  go_wp2_with fail
  refine Jg (v:=.tuple #[.int .i64 (j:Nat),.int .i64 0]) ?_ rfl ⟨rfl,G.o⟩;simp[results,results52,go_sem]
 have y3:decide ((3000:Int)<=(T.length:Int))=true:=Ja (by omega);rw[hj] at E;simp only[Option.isSome_none] at E;clear hc hj
 go_region
 clear E
 go_wp2_with fail
 refine Jg (v:=.tuple #[.int .i64 0,.int .i64 4]) ?_ rfl ⟨rfl,G.o⟩;simp[results,results52,go_sem]
theorem Lg {α:Type}{c:α->List Value}{k:Nat}(hc:∀ x,(c x).length=k):∀ l:List α,(l.flatMap c).length=l.length*k
 | []=>by simp
 | x::r=>by rw[V5,Yn,hc,Lg hc r,Yq,Nat.succ_mul];omega
theorem P4 {α:Type}{c:α->List Value}{k:Nat}(hc:∀ x,(c x).length=k):∀ (l:List α) (i d:Nat) (h:i<l.length) (_:d<k),(l.flatMap c)[i*k+d]? = (c l[i])[d]?
 | [],_,_,h,_=>by simp at h
 | x::r,0,d,_,hd=>by rw[V5,V6,Y8,List.getElem?_append_left (by rw[hc];exact hd)];rfl
 | x::r,i+1,d,h,hd=>by
   rw[V5,List.getElem?_append_right (by rw[hc,Nat.succ_mul];omega)]
   have:(i+1)*k+d - (c x).length=i*k+d:=by rw[hc,Nat.succ_mul];omega
   rw[this,P4 hc r i d (by simpa using h) hd];rfl
theorem X4 {g cap size:Nat}{e:TypeId}{xs:List Value}(h:w.ownsRow base e size (.slice (some ⟨g,0,none⟩) n cap) n xs){j:Nat}{u:Value}(hu:xs[j]? = some u):w.cell? ⟨g,j,none⟩=some u:=by
 rcases h.2 with⟨E,_⟩|⟨J,A,d,I,_,hb,_,_,_,G⟩
 ·cases E
 cases I;rw[cell_of_row w g j d e (0,0) hb];rw[<-G,List.getElem?_take] at hu
 split at hu
 ·simpa using hu
 cases hu
theorem Xg {size:Nat}{e:TypeId}{xs:List Value}(h:w.ownsRow base e size v n xs):∃ p c,v=.slice p n c/\n<=c/\c<=maxLen/\(n=0∨∃ g,p=some ⟨g,0,none⟩/\g<w.heap.size):=by
 have hl:=h.lt
 rcases h.2 with⟨rfl,rfl⟩|⟨g,cap,d,rfl,_,_,j,h2,_⟩
 ·exact⟨none,0,rfl,leR,Jr _,.inl rfl⟩
 exact⟨some ⟨g,0,none⟩,cap,rfl,j,h2,.inr ⟨g,rfl,(hl g rfl).2⟩⟩
theorem Iq {L:List (List UInt8)}(h:w.ownsRow base 9 1 v L.length (strsC L)):O3 w v L:=by
 obtain⟨p,c,rfl,d,h2,h3⟩:=Xg h;refine⟨p,c,rfl,d,h2,?_⟩
 rcases h3 with h3|⟨g,rfl,j⟩
 ·exact .inl (Jw h3)
 exact .inr ⟨g,rfl,j,fun i hi=>X4 h (by unfold strsC;rw[Y6,Jd hi];rfl)⟩
theorem FD {L:List Int}(h:w.ownsRow base 3 1 v L.length (Nx L)):Kg w v L:=by
 obtain⟨p,c,rfl,d,h2,h3⟩:=Xg h;refine⟨p,c,rfl,d,h2,?_⟩
 rcases h3 with h3|⟨g,rfl,j⟩
 ·exact .inl (Jw h3)
 exact .inr ⟨g,rfl,j,fun i hi=>X4 h (by unfold Nx;rw[Y6,Jd hi];rfl)⟩
def funC (x:Fn×Value):List Value:=[.string (Oo x.1.name),x.2,.string (Oo x.1.sort)]
def Ho (x:Tm×Value):List Value:=[.int .i64 x.1.op,.string (Oo x.1.sort),.string (Oo x.1.text),.int .i64 x.1.a,.int .i64 x.1.b,x.2]
def Nq {α:Type}(x y:α×Value):Prop:=∀ b,x.2.ownBlock=some b->y.2.ownBlock≠some b
def Ec (w:World)(base:Nat)(v:Value)(F:List Fn):Prop:=∃ X:List (Fn×Value),X.map Prod.fst=F/\w.ownsRow base 45 3 v F.length (X.flatMap funC)/\(∀ x∈X,w.ownsRow base 9 1 x.2 x.1.args.length (strsC x.1.args))/\X.Pairwise Nq
def K8 (w:World)(base:Nat)(v:Value)(T:List Tm):Prop:=∃ X:List (Tm×Value),X.map Prod.fst=T/\w.ownsRow base 55 6 v T.length (X.flatMap Ho)/\(∀ x∈X,w.ownsRow base 3 1 x.2 x.1.kids.length (Nx x.1.kids))/\X.Pairwise Nq
theorem Ec.at (h:Ec w base v F):E9 w v F:=by
 obtain⟨X,rfl,h,G,-⟩:=h;obtain⟨p,c,rfl,E,h2,h3⟩:=Xg h;refine⟨p,c,rfl,E,h2,?_⟩
 rcases h3 with h3|⟨g,rfl,I⟩
 ·exact .inl (Jw h3)
 refine .inr ⟨g,rfl,I,fun i hi=>?_⟩;have j:i<X.length:=by simpa using hi
 have A:∀ d (u:Value),d<3->(funC X[i])[d]? = some u->w.cell? ⟨g,i*3+d,none⟩=some u:=fun d u hd hu=>X4 h (by rw[P4 (k:=3) (fun _=>rfl) X i d j hd];exact hu);rw[Za];exact⟨A 0 _ (by decide) rfl,⟨_,A 1 _ (by decide) rfl,Iq (G _ (Jo j))⟩,A 2 _ (by decide) rfl⟩
theorem K8.at (h:K8 w base v T):K9 w v T:=by
 obtain⟨X,rfl,h,G,-⟩:=h;obtain⟨p,c,rfl,E,h2,h3⟩:=Xg h;refine⟨p,c,rfl,E,h2,?_⟩
 rcases h3 with h3|⟨g,rfl,I⟩
 ·exact .inl (Jw h3)
 refine .inr ⟨g,rfl,I,fun i hi=>?_⟩;have A:i<X.length:=by simpa using hi
 have j:∀ d (u:Value),d<6->(Ho X[i])[d]? = some u->w.cell? ⟨g,i*6+d,none⟩=some u:=fun d u hd hu=>X4 h (by rw[P4 (k:=6) (fun _=>rfl) X i d A hd];exact hu);rw[Za];exact⟨j 0 _ (by decide) rfl,j 1 _ (by decide) rfl,j 2 _ (by decide) rfl,j 3 _ (by decide) rfl,j 4 _ (by decide) rfl,_,j 5 _ (by decide) rfl,FD (G _ (Jo A))⟩
theorem Ec.keep (h:Ec w base v F)(hk:∀ g cs fz,(w.heap[g]? = some (.cells cs 45 fz)∨w.heap[g]? = some (.cells cs 9 fz))->base<=g->w'.heap[g]? = w.heap[g]?):Ec w' base v F:=by
 obtain⟨X,e,d,h2,j⟩:=h;refine⟨X,e,own_other' d fun g hg=>?_,fun x hx=>own_other' (h2 x hx) fun g hg=>?_,j⟩
 ·obtain⟨cs,fz,hb⟩:=Kp d g hg;exact hk g cs fz (.inl hb) (Ol d g hg)
 obtain⟨cs,fz,hb⟩:=Kp (h2 x hx) g hg;exact hk g cs fz (.inr hb) (Ol (h2 x hx) g hg)
theorem K8.keep (h:K8 w base v T)(hk:∀ g cs fz,(w.heap[g]? = some (.cells cs 55 fz)∨w.heap[g]? = some (.cells cs 3 fz))->base<=g->w'.heap[g]? = w.heap[g]?):K8 w' base v T:=by
 obtain⟨X,e,d,h2,j⟩:=h;refine⟨X,e,own_other' d fun g hg=>?_,fun x hx=>own_other' (h2 x hx) fun g hg=>?_,j⟩
 ·obtain⟨cs,fz,hb⟩:=Kp d g hg;exact hk g cs fz (.inl hb) (Ol d g hg)
 obtain⟨cs,fz,hb⟩:=Kp (h2 x hx) g hg;exact hk g cs fz (.inr hb) (Ol (h2 x hx) g hg)
theorem IQ:(prog.info? 45).map (fun i=>(i.zero,i.size,i.bytes))=some (some (.agg #[.string ⟨#[]⟩,.slice none 0 0,.string ⟨#[]⟩]),3,56):=by kernel_rfl
theorem Lr:∃ i:TypeInfo,prog.info? 45=some i/\i.zero=some (.agg #[.string ⟨#[]⟩,.slice none 0 0,.string ⟨#[]⟩])/\i.size=3/\i.bytes=56:=info_parts IQ
theorem info_term0:(prog.info? 55).map (fun i=>(i.zero,i.size,i.bytes))=some (some (.agg #[.int .i64 0,.string ⟨#[]⟩,.string ⟨#[]⟩,.int .i64 0,.int .i64 0,.slice none 0 0]),6,80):=by kernel_rfl
theorem Rc:∃ i:TypeInfo,prog.info? 55=some i/\i.zero=some (.agg #[.int .i64 0,.string ⟨#[]⟩,.string ⟨#[]⟩,.int .i64 0,.int .i64 0,.slice none 0 0])/\i.size=6/\i.bytes=80:=info_parts info_term0
theorem UE (X:SI)(w:World)(h6:X.kind=6):Calls prog 83 #[Gw X] w fun e w'=>e=.returned (.bool (O1 X))/\Up w w':=by
 have d:Hid (O1 X=false):=by
  unfold Hid O1;rw[J8];intro h;rw[J3,Ju,Ju] at h;omega
 unfold Gw;have z0:(X.kind==0)=false:=by rw[Jb];omega
 have j:=K3 (a:=X.kind) (b:=1) (by omega);have A:=Nr h6;clear h6
 go_in
 go_wp2
 go_ret
 exact⟨Oy d.o.symm,Oz _ _⟩
theorem OL (own:List UInt8->Bool)(t:List UInt8)(w:World):Calls prog 83 #[Gw (Ov own t)] w fun e w'=>e=.returned (.bool (O1 (Ov own t)))/\Up w w':=by
 have E:=Qp own t
 by_cases h:(Ov own t).kind=0
 ·have d:=(KG own).w0 t (by omega);have h2:=(KG own).a0 t (by omega);have e:Ov own t=SI.none:=by
   cases A:Ov own t with
   | mk k w i el=>
     rw[A] at h d h2;simp only at h d h2;rw[h,d,h2.1,h2.2];rfl
  rw[e];exact C4 w
 by_cases j:(Ov own t).kind=6
 ·exact UE _ w j
 exact C5 _ w h (by omega)
theorem Ie (h:BK w kb sb fb gb n S F T vS vF vT v5 g)(f:Fn)(va:Value)(hva:O3 w va f.args)(hz:∀ a∈f.args,a.length<=1048576)(hzs:f.sort.length<=1048576)(hn:n<=900000000) :
 Calls prog 68 #[.pointer (some ⟨kb,0,none⟩),.agg #[.string (Oo f.name),va,.string (Oo f.sort)]] w fun e w'=>e=.returned (.bool (K4 (Oc (Oq S)) f))/\O8 w w' kb sb fb gb n S F T vS vF vT v5 6:=by
 have f9:=Hd hva;obtain⟨p,c,rfl,h1,h2,h3⟩:=hva;have HA:=Hd h3;have HZ:=Hd hz;have HH:=Hd h;unfold maxLen at h2;clear h h3 hz;have e1:(Oo f.sort).size<=1048576:=by show f.sort.toArray.size<=_;simpa using hzs
 have HB:Hid (Up w (w.alloc (.cells #[.string (Oo f.name),.slice p f.args.length c,.string (Oo f.sort)] 45))):=Oz _ _;have Z:Hid (Bx (w.alloc (.cells #[.string (Oo f.name),.slice p f.args.length c,.string (Oo f.sort)] 45)) w.heap.size [.string (Oo f.name),.slice p f.args.length c,.string (Oo f.sort)]):=Oi _ _ _
 by_cases h5:5<f.args.length
 ·have G:Hid (K4 (Oc (Oq S)) f=false):=by unfold Hid K4;rw[Jc (by omega)];rfl
  go_in
  go_wp2
  go_ret
  exact⟨Oy G.o.symm,O8.of HH.o HB.o 6⟩
 have HF:Hid (K4 (Oc (Oq S)) f=(f.args.all (fun a=>O1 (Ov (Oc (Oq S)) a))&&(decide ((Ov (Oc (Oq S)) f.sort).kind≠0)&&(decide ((Ov (Oc (Oq S)) f.sort).kind≠6)||decide (f.args.length=0))))):=by
  unfold Hid K4;rw[Ja (by omega),Zd,U0]
 go_in
 go_wp2_with fail
 obtain⟨W1,c6⟩:=Oa (w.alloc (.cells #[.string (Oo f.name),.slice p f.args.length c,.string (Oo f.sort)] 45));rw[c6] at HB Z ⊢;clear c6;have b9:Hid (∀ W,Bar gb W1 W->W.cell? ⟨w.heap.size,0,none⟩=some (.string (Oo f.name))/\W.cell? ⟨w.heap.size,1,none⟩=some (.slice p f.args.length c)/\W.cell? ⟨w.heap.size,2,none⟩=some (.string (Oo f.sort))):=fun W hW=>by
  have hk:=hW.keep (HH.o.next HB.o).km;exact⟨hk.cell _ _ (Z.o.cell 0),hk.cell _ _ (Z.o.cell 1),hk.cell _ _ (Z.o.cell 2)⟩
 go_loopw [15] (fun i wr=>∃ k:Nat,k<=f.args.length/\i=.int .i64 (k:Nat)/\(∀ j (h:j<f.args.length),j<k->O1 (Ov (Oc (Oq S)) f.args[j])=true)/\∃ nr gr,nr<=n+k/\BK wr kb sb fb gb nr S F T vS vF vT v5 gr/\Bar gb W1 wr) (fun i _=>f.args.length - (intOf i).toNat)
 case atStart=>exact⟨0,Jr _,rfl,fun j _ h=>absurd h (J2 _),n,g,by omega,HH.o.next HB.o,Bar.refl _ _⟩
 obtain⟨k,hk,rfl,hp,nr,gr,d0,b4,E⟩:=hrel;have HP:=Hd hp;have J:=Hd d0;have b3:=Hd b4;have A:=Hd E;obtain⟨b0,b1,b2⟩:=b9.o wr E;clear hp d0 b4 E
 by_cases U:k<f.args.length
 ·have b6:wr.cell? ⟨(match p with|some a=>a.block|none=>0),k,none⟩=some (.string (Oo f.args[k]))/\∃ b,p=some ⟨b,0,none⟩:=by
   rcases HA.o with e0|⟨b,rfl,hb,b6⟩
   ·rw[e0] at U;cases U
   refine⟨?_,b,rfl⟩;have h1:=(HB.o.cell (p:=⟨b,k,none⟩) hb).trans (b6 k U);exact (A.o.keep (HH.o.next HB.o).km).cell _ _ h1
  obtain⟨ck,b,rfl⟩:=b6;simp only at ck;have d1:(Oo f.args[k]).size<=1048576:=by
   have:=HZ.o _ (Jo U)
   show f.args[k].toArray.size<=_
   simpa using this
  have b5:Hid (O1 (Ov (Oc (Oq S)) f.args[k])=false->K4 (Oc (Oq S)) f=false):=fun h=>by
   rw[HF.o];have:f.args.all (fun a=>O1 (Ov (Oc (Oq S)) a))=false:=by
    rw[J8];intro h2;have:=Jt.1 h2 _ (Jo U);rw[h] at this
    cases this
   rw[this];rfl
  have K:Hid (O1 (Ov (Oc (Oq S)) f.args[k])=true->∀ j (h:j<f.args.length),j<k+1->O1 (Ov (Oc (Oq S)) f.args[j])=true):=fun h j hj h2=>by
   rcases J1.1 h2 with h3|rfl
   ·exact HP.o j hj h3
   exact h
  generalize f.args[k]=ak at ck d1 b5 K;have i0:(0:Int)<=(k:Int):=by omega
  have i1:(k:Int)<(f.args.length:Int):=by omega
  go_wp2_with fail
  refine (ask_sort b3.o (Oo ak) d1 (by have:=J.o;omega)).mono ?_;rw[Ou];obtain⟨X,hX⟩:=Oa (Ov (Oc (Oq S)) ak);have d5:Hid (∀ W,Calls prog 83 #[Gw X] W fun e w'=>e=.returned (.bool (O1 X))/\Up W w'):=fun W=>by rw[<-hX];exact OL _ _ W
  rw[hX] at b5 K ⊢;clear hX;rintro e w2 ⟨rfl,M⟩;have b7:=Hd M;clear M
  go_wp2_with fail
  refine (d5.o w2).mono ?_
  cases a7:O1 X
  ·have G:=Hd (b5.o a7);clear a7;rintro e w3 ⟨rfl,O⟩;have d:Hid (O8 w w3 kb sb fb gb n S F T vS vF vT v5 6):=(O8.comp (m2:=k) (by have:=J.o;omega) ((Bar.of HB.o).trans A.o) (b7.o.next O)).more (by omega);clear O
   go_wp2
   go_ret
   exact⟨Oy G.o.symm,d.o⟩
  have HR:=Hd (K.o a7);clear a7;rintro e w3 ⟨rfl,O⟩;have d6:Hid (∃ nr gr,nr<=n+(k+1)/\BK w3 kb sb fb gb nr S F T vS vF vT v5 gr/\Bar gb W1 w3):=by
   obtain⟨n',g',h1,h2,h3⟩:=b7.o.next O;have:=J.o;exact⟨n',g',by omega,h2,A.o.trans h3⟩
  clear O
  go_wp2
  go_roundw
  case rel=>exact⟨k+1,by omega,by go_num,HR.o,d6.o⟩
  simp[intOf];omega
 have b8:Hid (f.args.all (fun a=>O1 (Ov (Oc (Oq S)) a))=true):=by
  unfold Hid;rw[Jt];intro a ha;obtain⟨j,hj,rfl⟩:=J6 ha;exact HP.o j hj (by omega)
 have z:¬ (k:Int)<(f.args.length:Int):=by omega
 go_wp2_with fail
 refine (ask_sort b3.o (Oo f.sort) e1 (by have:=J.o;omega)).mono ?_;rw[Ou];have I:Hid (K4 (Oc (Oq S)) f=(decide ((Ov (Oc (Oq S)) f.sort).kind≠0)&&(decide ((Ov (Oc (Oq S)) f.sort).kind≠6)||decide (f.args.length=0)))):=by unfold Hid;rw[HF.o,b8.o];rfl
 generalize Ov (Oc (Oq S)) f.sort=X at I ⊢;rintro e w2 ⟨rfl,M⟩;have d:Hid (∀ W,Up w2 W->O8 w W kb sb fb gb n S F T vS vF vT v5 6):=fun W hW=>(O8.comp (m2:=k) (by have:=J.o;omega) ((Bar.of HB.o).trans A.o) (M.next hW)).more (by omega);obtain⟨n7,g7,-,-,c8⟩:=M;obtain⟨b0,b1,b2⟩:=b9.o w2 (A.o.trans c8);have g4:w.heap.size<w2.heap.size:=J5 _ _ b0;have g0:Hid (Bx (w2.alloc (.cells #[.int .i64 X.kind,.int .i64 (X.width:Nat),.string (Oo X.index),.string (Oo X.elem)] 101)) w2.heap.size (Qw X)):=Oi _ _ _;have Y:Hid (Up w2 (w2.alloc (.cells #[.int .i64 X.kind,.int .i64 (X.width:Nat),.string (Oo X.index),.string (Oo X.elem)] 101))):=Oz _ _;clear c8;unfold Gw
 by_cases V:X.kind=0
 ·have y0:=Nr V;have G:Hid (K4 (Oc (Oq S)) f=false):=by unfold Hid;rw[I.o,Jc (fun h=>h V)];rfl
  clear V
  go_wp2
  go_ret
  exact⟨Oy G.o.symm,d.o _ Y.o⟩
 have y0:=K3 V
 by_cases kn:f.args.length=0
 ·have yn:((f.args.length:Int)==0)=true:=by rw[Yf];omega
  have G:Hid (K4 (Oc (Oq S)) f=true):=by unfold Hid;rw[I.o,Ja V,Ja kn];simp
  clear V
  go_wp2
  go_ret
  exact⟨Oy G.o.symm,d.o _ Y.o⟩
 have yn:((f.args.length:Int)==0)=false:=by rw[Jb];omega
 by_cases k6:X.kind=6
 ·have y6:=Nr k6;have G:Hid (K4 (Oc (Oq S)) f=false):=by unfold Hid;rw[I.o,Ja V,Jc (fun h=>h k6),Jc kn];rfl
  clear V k6
  go_wp2
  go_ret
  exact⟨Oy G.o.symm,d.o _ Y.o⟩
 have y6:=K3 k6;have G:Hid (K4 (Oc (Oq S)) f=true):=by unfold Hid;rw[I.o,Ja V,Ja k6];rfl
 clear V k6
 go_wp2
 go_ret
 exact⟨Oy G.o.symm,d.o _ Y.o⟩
theorem T8 (kb sb fb:Nat)(f1 f2:List UInt8->Option Nat)(s:ByteArray)(w:World)(hc3:w.cell? ⟨kb,3,none⟩=some (.map (some sb)))(hc4:w.cell? ⟨kb,4,none⟩=some (.map (some fb)))(hm1:Hm w sb f1)(hm2:Hm w fb f2)(hs:s.size<=1048576)(hf:Ee f1 f2 s.data.toList=true) :
 Calls prog 38 #[.pointer (some ⟨kb,0,none⟩),.string s] w fun e w'=>e=.returned (.tuple #[.int .i64 0,.int .i64 2])/\w'=w:=by
 have h:=Hd (Gv kb sb fb f1 f2 s w hc3 hc4 hm1 hm2 hs);have d:Hid (Hg f1 f2 s.data.toList=2):=by unfold Hid Hg;rw[hf];rfl
 clear hm1 hm2 hf
 go_in
 go_wp2_with fail
 refine h.o.mono ?_;rw[d.o];rintro e j ⟨rfl,rfl⟩
 go_wp2_with fail
 refine Jg (v:=.tuple #[.int .i64 0,.int .i64 2]) ?_ rfl ⟨rfl,rfl⟩;simp[results,results38,go_sem]
theorem Cf (h:BK w kb sb fb gb n S F T vS vF vT v5 g)(f:Fn)(va:Value)(hzn:f.name.length<=1048576)(hf:Ee (Oq S) (Od F) f.name=true) :
 Calls prog 47 #[.pointer (some ⟨kb,0,none⟩),.agg #[.string (Oo f.name),va,.string (Oo f.sort)]] w fun e w'=>e=.returned (.tuple #[.int .i64 0,.int .i64 2])/\Up w w':=by
 have A:(Oo f.name).size<=1048576:=by show f.name.toArray.size<=_;simpa using hzn
 have d:=Hd (h.next (Oz w (.cells #[.string (Oo f.name),va,.string (Oo f.sort)] 45)));have E:Hid (Up w (w.alloc (.cells #[.string (Oo f.name),va,.string (Oo f.sort)] 45))):=Oz _ _;have j:Hid (Hg (Oq S) (Od F) f.name=2):=by unfold Hid Hg;rw[hf];rfl
 clear h hf
 go_in
 go_wp2_with fail
 refine (Gv kb sb fb (Oq S) (Od F) (Oo f.name) _ d.o.box.c7.2.2.2.1 d.o.box.c7.2.2.2.2.1 d.o.sm d.o.fm A).mono ?_;rw[Ou,j.o];rintro e G ⟨rfl,rfl⟩
 go_wp2_with fail
 refine Jg (v:=.tuple #[.int .i64 0,.int .i64 2]) ?_ rfl ⟨rfl,E.o⟩;simp[results,results47,go_sem]
theorem Cl (h:BK w kb sb fb gb n S F T vS vF vT v5 g)(f:Fn)(va:Value)(hva:O3 w va f.args)(hzn:f.name.length<=1048576)(hz:∀ a∈f.args,a.length<=1048576)(hzs:f.sort.length<=1048576)(hn:n<=900000000)(hf:Ee (Oq S) (Od F) f.name=false)(hno:K4 (Oc (Oq S)) f=false) :
 Calls prog 47 #[.pointer (some ⟨kb,0,none⟩),.agg #[.string (Oo f.name),va,.string (Oo f.sort)]] w fun e w'=>e=.returned (.tuple #[.int .i64 0,.int .i64 3])/\O8 w w' kb sb fb gb n S F T vS vF vT v5 6:=by
 have G:(Oo f.name).size<=1048576:=by show f.name.toArray.size<=_;simpa using hzn
 have E:=Hd hva;obtain⟨K,J,rfl,-,-,-⟩:=hva;have j:=Hd (h.next (Oz w (.cells #[.string (Oo f.name),.slice K f.args.length J,.string (Oo f.sort)] 45)));have I:Hid (Up w (w.alloc (.cells #[.string (Oo f.name),.slice K f.args.length J,.string (Oo f.sort)] 45))):=Oz _ _;have A:Hid (Hg (Oq S) (Od F) f.name=0):=by unfold Hid Hg;rw[hf];rfl
 have d:=Hd (Ie j.o f _ (E.o.bl I.o) hz hzs hn);rw[hno] at d;clear h hf hno
 go_in
 go_wp2_with fail
 refine (Gv kb sb fb (Oq S) (Od F) (Oo f.name) _ j.o.box.c7.2.2.2.1 j.o.box.c7.2.2.2.2.1 j.o.sm j.o.fm G).mono ?_;rw[Ou,A.o];rintro e O ⟨rfl,rfl⟩
 go_wp2_with fail
 refine d.o.mono ?_;rintro e w2 ⟨rfl,ha⟩;have M:=Hd (ha.after I.o);clear ha
 go_wp2_with fail
 refine Jg (v:=.tuple #[.int .i64 0,.int .i64 3]) ?_ rfl ⟨rfl,M.o⟩;simp[results,results47,go_sem]
end Go.Proofs.YtdmdmgfjpomdbaaGreatDoor
