import Derived.Test.YtfkagjelljnpdaaGreatDoorP25
import Derived.Test.YtfkagjelljnpdaaGreatDoorP35
set_option linter.all false
set_option maxRecDepth 100000
set_option maxHeartbeats 16000000
namespace Go.Proofs.YtfkagjelljnpdaaGreatDoor
open ChangeShapes WideShapes ChangeAt RowKit Proofs.Tryz
theorem MemsAt.put8k{w:World}{mb n k:Nat}{ms:List Me}{a:Array Value}(h:MemsAt w mb ms)(hk:ms.length=k)(hb:w.heap[mb]? = some (.cells a 49 (0,0)))(hs:a.size=n*8)(hn:k<n)(m:Me){v0 v1 v2 v3 v4 v5 v6 v7:Value}(hv:QK mb k m=[v0,v1,v2,v3,v4,v5,v6,v7]) :
 MemsAt ((((((((w.setCell ⟨mb,k*8,none⟩ v0).setCell ⟨mb,k*8+1,none⟩ v1).setCell ⟨mb,k*8+2,none⟩ v2).setCell ⟨mb,k*8+3,none⟩ v3).setCell ⟨mb,k*8+4,none⟩ v4).setCell ⟨mb,k*8+5,none⟩ v5).setCell ⟨mb,k*8+6,none⟩ v6).setCell ⟨mb,k*8+7,none⟩ v7) mb (ms++[m])/\(∃a',((((((((w.setCell ⟨mb,k*8,none⟩ v0).setCell ⟨mb,k*8+1,none⟩ v1).setCell ⟨mb,k*8+2,none⟩ v2).setCell ⟨mb,k*8+3,none⟩ v3).setCell ⟨mb,k*8+4,none⟩ v4).setCell ⟨mb,k*8+5,none⟩ v5).setCell ⟨mb,k*8+6,none⟩ v6).setCell ⟨mb,k*8+7,none⟩ v7).heap[mb]? = some (.cells a' 49 (0,0))/\a'.size=n*8)/\Bar mb w ((((((((w.setCell ⟨mb,k*8,none⟩ v0).setCell ⟨mb,k*8+1,none⟩ v1).setCell ⟨mb,k*8+2,none⟩ v2).setCell ⟨mb,k*8+3,none⟩ v3).setCell ⟨mb,k*8+4,none⟩ v4).setCell ⟨mb,k*8+5,none⟩ v5).setCell ⟨mb,k*8+6,none⟩ v6).setCell ⟨mb,k*8+7,none⟩ v7):=by
 subst hk;exact h.put8 hb hs hn m hv
theorem NR{w:World}{vt:Value}{T:List Tm}(hT:TermsAt w vt T)(hn:T.length<=3000)(hw:∀i,i<T.length->WfT (R3 (tmAt T (i:Nat)))):Calls prog 11 #[vt] w fun e w'=>∃A2 eb hb ub mb sb gm L ms Hs,e=.returned (.pointer (some ⟨eb,0,none⟩))/\A2=madeCells (Value.slice none 0 0).cells T.length/\NL w T.length vt T A2 eb hb ub mb sb gm T.length w' L ms Hs:=by
 have HT:=Hd hT;have q0:=Hd hw;obtain⟨pt,ct,rfl,-,-,-⟩:=hT;obtain⟨n,h9⟩:=O2 T.length;have HN:=Hd h9;rw[h9]at hn ⊢;obtain⟨i1,m7,n2,i6,m0⟩:=info_parts Iu;obtain⟨i2,m8,n4,i7,hb2⟩:=info_parts YY;obtain⟨i3,m9,n5,i8,m5⟩:=info_parts EL;obtain⟨A1,h4⟩:∃A,madeCells (Value.int .i64 0).cells n=A:=⟨_,rfl⟩;obtain⟨A2,h5⟩:∃A,madeCells (Value.slice none 0 0).cells n=A:=⟨_,rfl⟩;obtain⟨A3,h7⟩:∃A,madeCells (Value.agg #[.int .i64 0,.pointer none,.bool false,.bool false,.slice none 0 0,.int .i64 0,.bool false,.slice none 0 0]).cells (n*8)=A:=⟨_,rfl⟩;have m1:∀W:World,(Instr.makeSlice 31 (.int .i64 (n:Int)) (.int .i64 (n:Int))).run prog W=.ok (.slice (some ⟨W.heap.size,0,none⟩) n n) (W.alloc (.cells A1 3)):=fun W=>by
  have h:=run_makeSlice (P:=prog) W 31 3 i1 _ underlying31 m7 n2 .i64 .i64 (n:Int) (n:Int) (by omega) (by omega) (by rw[i6];simp;omega) (by rw[m0];omega) (by omega);rw[h,i6];simp[h4]
 have m2:∀W:World,(Instr.makeSlice 51 (.int .i64 (n:Int)) (.int .i64 (n:Int))).run prog W=.ok (.slice (some ⟨W.heap.size,0,none⟩) n n) (W.alloc (.cells A2 31)):=fun W=>by
  have h:=run_makeSlice (P:=prog) W 51 31 i2 _ underlying51 m8 n4 .i64 .i64 (n:Int) (n:Int) (by omega) (by omega) (by rw[i7];simp;omega) (by rw[hb2];omega) (by omega);rw[h,i7];simp[h5]
 have m3:∀W:World,(Instr.makeSlice 52 (.int .i64 (n:Int)) (.int .i64 (n:Int))).run prog W=.ok (.slice (some ⟨W.heap.size,0,none⟩) n n) (W.alloc (.cells A3 49)):=fun W=>by
  have h:=run_makeSlice (P:=prog) W 52 49 i3 _ underlying52 m9 n5 .i64 .i64 (n:Int) (n:Int) (by omega) (by omega) (by rw[i8];simp;omega) (by rw[m5];omega) (by omega);rw[h,i8];simp[h7]
 have n7:Hid (A1.toList=labV (List.replicate n 0)):=by
  unfold Hid;rw[<-h4,show(Value.int .i64 0).cells=#[Value.int .i64 0]from rfl,toList_madeCells_one];simp[labV]
 have n9:Hid (A3.size=n*8):=by unfold Hid;rw[<-h7];exact size_madeCells _ _
 have n8:=Hd h5;clear h4 h5 h7 m7 m8 m9 n2 n4 n5 i6 i7 i8 m0 hb2 m5 hw h9
 go_in
 go_upto_region 1 with fail
 go_cut [3] (fun s3 wx=>∃eb hb ub mb sb,s3=.pointer (some ⟨eb,0,none⟩)/\NewE w n (.slice pt n ct) A1 A2 A3 eb hb ub mb sb wx)
 case first=>
  have q7:=@run_makeMap prog
  go_region
  all_goals (
   go_wp2
   go_meet
   refine⟨_,_,_,_,_,rfl,(EU _ _ _ _ _ _).1.2.2.2.2,(EU _ _ _ _ _ _).2.drew,?_,?_,?_,?_,by omega⟩
   all_goals first|exact(EU _ _ _ _ _ _).1.1|exact(EU _ _ _ _ _ _).1.2.1|exact(EU _ _ _ _ _ _).1.2.2.1|exact(EU _ _ _ _ _ _).1.2.2.2.1)
 obtain⟨eb,hb,ub,mb,sb,rfl,hE⟩:=hcut
 rename World=>w1
 obtain⟨w2,f8⟩:∃W,w1.alloc (.map #[] 0)=W:=⟨_,rfl⟩;have q7:=@run_makeMap prog;have p9:=Hd f8;have j2:Up w1 w2:=by rw[<-f8];exact Oy _ _
 have d6:=hE.low;have g8:Hid (NL w n (.slice pt n ct) T A2 eb hb ub mb sb w1.heap.size 0 w2 (List.replicate n 0) [] []):=by
  have k1:∀g,g<w1.heap.size->w2.heap[g]? = w1.heap[g]? := fun g hg=>j2.block g hg;have lt:∀ {g:Nat} {o:Obj},w1.heap[g]? = some o->g<w1.heap.size:=fun h=>(Jo.1 h).1;have g0:=hE.ge;have s1:=lt hE.sg;exact⟨d6.trans (j2.mono d6.size),(k1 eb hE.box.bx.lt).trans hE.box,⟨g0.1,g0.2.1,g0.2.2.1,g0.2.2.2.1,g0.2.2.2.2,d6.size⟩,by omega,by
   have:Tb w1 hb 3 (labV (List.replicate n 0)):=by unfold Tb;rw[<-n7.o];exact hE.hd
   exact(k1 hb (lt hE.hd)).trans this,by simp,(k1 ub (lt hE.us)).trans hE.us,⟨⟨A3,(k1 mb (lt hE.mm)).trans hE.mm⟩,fun i hi=>absurd hi (Jz _)⟩,rfl,⟨A3,(k1 mb (lt hE.mm)).trans hE.mm,n9.o⟩,fun i hi=>absurd hi (Jz _),fun i j hi=>absurd hi (Jz _),fun i hi=>absurd hi (Jz _),(k1 sb s1).trans hE.sg,Hz.new (by rw[<-f8];exact heap_alloc_new _ _),leR,fun i hi=>absurd hi (Jz _)⟩
 obtain⟨gm,h8⟩:∃g,w1.heap.size=g:=⟨_,rfl⟩;rw[h8]at g8;have o3:=Hd h8;clear hE f8 j2 d6 h8 m1 m2 m3
 go_upto_region 3 with fail
 rw[p9.o];rw[o3.o]
 go_wp2
 go_loopw [5,6,24] (fun _ _ iv wr=>∃(k:Nat) (L:List Nat) (ms:List Me) (Hs:List Tm),k<=n/\iv=.int .i64 (k:Nat)/\NL w n (.slice pt n ct) T A2 eb hb ub mb sb gm k wr L ms Hs) (fun _ _ iv _=>n - (intOf iv).toNat)
 case atStart=>exact⟨0,_,_,_,Jp _,rfl,g8.o⟩
 rename World=>wr
 obtain⟨k,L,ms,Hs,hk,rfl,nl⟩:=hrel;have a7:=Hd nl;clear g8
 by_cases c6:k<n
 ·have z1:decide ((k:Int)<(n:Int))=true:=Jb (by omega);have z2:decide (k<n)=true:=Jb c6;have j1:(k:Int)<(n:Int):=by omega
  have n0:k<T.length:=by rw[HN.o];exact c6
  obtain⟨bt,s7,pk,ck,et,q5,k0,k1,k2,k3,k4,k5,-⟩:=Uo (HT.o.bl nl.low) n0;have l6:=Hd (q0.o k n0);obtain⟨u,hu⟩:=O2 (tmAt T (k:Nat));have h2:=Hd hu;rw[hu]at k0 k1 k2 k3 k4 k5 l6;simp only[Value.slice.injEq,true_and]at et;obtain⟨rfl,rfl⟩:=et;generalize u.kids.length=nk at k5;obtain⟨Z,f0⟩:∃W,wr.alloc (.cells #[.int .i64 u.op,.string (Oo u.sort),.string (Oo u.text),.int .i64 u.a,.int .i64 u.b,.slice pk nk ck] 38)=W:=⟨_,rfl⟩;obtain⟨V,j0⟩:∃g,wr.heap.size=g:=⟨_,rfl⟩;have p8:=Hd f0;have o9:=Hd j0;have b7:Hid (Up wr Z):=by unfold Hid;rw[<-f0];exact Oy _ _
  have l5:Hid (Tb Z V 38 [.int .i64 u.op,.string (Oo u.sort),.string (Oo u.text),.int .i64 u.a,.int .i64 u.b,.slice pk nk ck]):=by unfold Hid;rw[<-f0,<-j0];exact Js
  have j5:Hid (Tb Z eb 59 _):=(b7.o.block eb nl.box.bx.lt).trans nl.box;have d1:Hid (∀W,Ch w.heap.size NoX [some 49] Z W->W.cell? ⟨eb,5,none⟩=some (.slice (some ⟨mb,0,none⟩) n n)/\W.cell? ⟨V,0,none⟩=some (.int .i64 u.op)/\W.cell? ⟨V,1,none⟩=some (.string (Oo u.sort))/\W.cell? ⟨V,2,none⟩=some (.string (Oo u.text))/\W.cell? ⟨V,3,none⟩=some (.int .i64 u.a)/\W.cell? ⟨V,4,none⟩=some (.int .i64 u.b)/\W.cell? ⟨V,5,none⟩=some (.slice pk nk ck)):=fun W hc=>by
   have a1:=j5.o.ch hc (.inr (.inr (by decide)));have a2:=l5.o.ch hc (.inr (.inr (by decide)));exact⟨a1.bx.cell 5,a2.bx.cell 0,a2.bx.cell 1,a2.bx.cell 2,a2.bx.cell 3,a2.bx.cell 4,a2.bx.cell 5⟩
  have j6:Hid (∀W,Ch w.heap.size NoX [] Z W->W.heap[mb]? = wr.heap[mb]?):=fun W hc=>(hc.block mb (Jn nl.mem.lt b7.o.size) (.inr (.inr (by simp)))).trans (b7.o.block mb nl.mem.lt);have G:Hid (∀W,Ch w.heap.size NoX [] Z W->MemsAt W mb ms):=fun W hc=>by
   obtain⟨a,ha⟩:=nl.mem.blk;have e1:=j6.o W hc;exact⟨⟨a,e1.trans ha⟩,fun i hi f hf=>(Zc e1).trans (nl.mem.cell i hi f hf)⟩
  have l2:Hid (∀W,Ch w.heap.size NoX [] Z W->∃a,W.heap[mb]? = some (.cells a 49 (0,0))/\a.size=n*8):=fun W hc=>by
   obtain⟨a,ha,hs⟩:=nl.mz;exact⟨a,(j6.o W hc).trans ha,hs⟩
  have l1:=Hd nl.ml;have j7:=Hd nl.ge.2.2.2.1;have l0:=Hd (fun W=>S3 u pk nk ck W);clear f0 j0 hu nl q5
  go_upto_region 6 with fail
  rw[p8.o];rw[o9.o]
  go_cut [] (fun wx=>∃g pl,MemsAt wx mb (ms++[CT g k pl])/\(∃a,wx.heap[mb]? = some (.cells a 49 (0,0))/\a.size=n*8)/\Tb wx g 3 [.int .i64 (k:Nat)]/\Z.heap.size<=g/\Ch w.heap.size NoX [some 49] Z wx)
  case first=>
   refine Ph 14 rfl (S:=fun W=>W.cell? ⟨eb,5,none⟩=some (.slice (some ⟨mb,0,none⟩) n n)/\W.cell? ⟨V,0,none⟩=some (.int .i64 u.op)/\W.cell? ⟨V,1,none⟩=some (.string (Oo u.sort))/\W.cell? ⟨V,2,none⟩=some (.string (Oo u.text))/\W.cell? ⟨V,3,none⟩=some (.int .i64 u.a)/\W.cell? ⟨V,4,none⟩=some (.int .i64 u.b)/\W.cell? ⟨V,5,none⟩=some (.slice pk nk ck)) (by kernel_rfl) (d1.o _ (Ch.refl _ _ _ _).drew) (fun hHeld=>?_);refine tk 0 29 (v:=?_) rfl rfl (by kernel_rfl) (fun _ _ _ h=>h) (Or.inl ⟨by rfl,?_⟩) (by assumption) ?_
   rotate_left
   ·(intro w E;(try dsimp only at E);go_simp;(try with_reducible rfl))
   try simp only[Act.put,Ja,Je,Jf]
   refine tk 1 30 (v:=?_) rfl rfl (by kernel_rfl) (fun _ _ _ h=>h) (Or.inl ⟨by rfl,?_⟩) (by assumption) ?_
   rotate_left
   ·(intro w E;(try dsimp only at E);go_simp;(try with_reducible rfl))
   try simp only[Act.put,Ja,Je,Jf]
   refine tk 2 31 (v:=?_) rfl rfl (by kernel_rfl) (fun _ _ _ h=>h) (Or.inl ⟨by rfl,?_⟩) (by assumption) ?_
   rotate_left
   ·(intro w E;(try dsimp only at E);go_simp;(try with_reducible rfl))
   try simp only[Act.put,Ja,Je,Jf]
   refine tk 3 32 (v:=?_) rfl rfl (by kernel_rfl) (fun _ _ _ h=>h) (Or.inl ⟨by rfl,?_⟩) (by assumption) ?_
   rotate_left
   ·(intro w E;(try dsimp only at E);go_simp;(try with_reducible rfl))
   try simp only[Act.put,Ja,Je,Jf]
   refine tk 4 33 (v:=?_) rfl rfl (by kernel_rfl) (fun _ _ _ h=>h) (Or.inl ⟨by rfl,?_⟩) (by assumption) ?_
   rotate_left
   ·(intro w E;(try dsimp only at E);go_simp;(try with_reducible rfl))
   try simp only[Act.put,Ja,Je,Jf]
   refine tk 5 34 (v:=?_) rfl rfl (by kernel_rfl) (fun _ _ _ h=>h) (Or.inl ⟨by rfl,?_⟩) (by assumption) ?_
   rotate_left
   ·(intro w E;(try dsimp only at E);go_simp;(try with_reducible rfl))
   try simp only[Act.put,Ja,Je,Jf]
   refine tk 6 35 (v:=?_) rfl rfl (by kernel_rfl) (fun _ _ _ h=>h) (Or.inl ⟨by rfl,?_⟩) (by assumption) ?_
   rotate_left
   ·(intro w E;(try dsimp only at E);go_simp;(try with_reducible rfl))
   try simp only[Act.put,Ja,Je,Jf]
   refine tk 8 37 (v:=?_) rfl rfl (by kernel_rfl) (fun _ _ _ h=>h) (Or.inl ⟨by rfl,?_⟩) (by assumption) ?_
   rotate_left
   ·(intro w E;(try dsimp only at E);go_simp;(try with_reducible rfl))
   try simp only[Act.put,Ja,Je,Jf]
   refine tk 9 38 (v:=?_) rfl rfl (by kernel_rfl) (fun _ _ _ h=>h) (Or.inl ⟨by rfl,?_⟩) (by assumption) ?_
   rotate_left
   ·(intro w E;(try dsimp only at E);go_simp;(try with_reducible rfl))
   try simp only[Act.put,Ja,Je,Jf]
   refine wpAnyH_ready (rs:=[7,10]) (by kernel_rfl) (by simp) ?_;refine AllReadyH.cons rfl (fun K hK=>?_) (AllReadyH.cons rfl (fun K hK=>?_) AllReadyH.nil)
   ·go_simp
    obtain⟨Wa,f1⟩:∃W,(Z.alloc (.cells #[.int .i64 (k:Nat)] 3)).drew=W:=⟨_,rfl⟩;have q1:=Hd f1;have d9:Hid (Ch w.heap.size NoX [] Z Wa):=by unfold Hid;rw[<-f1];exact(Ch.up _ _ _ (Oy _ _)).drew
    have k8:Hid (Tb Wa Z.heap.size 3 [.int .i64 (k:Nat)]):=by unfold Hid;rw[<-f1];exact Js
    try rw[q1.o]
    refine hK.out _ _ (d1.o Wa (d9.o.wide (by decide))) (fun hHeld7=>?_);clear hK K f1
    try simp only[Act.put,Ja,Je,Jf]
    refine wpAnyH_ready (rs:=[10]) (by kernel_rfl) (by simp) ?_;refine AllReadyH.cons rfl (fun K hK=>?_) AllReadyH.nil
    go_simp
    go_at_call 27
    refine(l0.o Wa).mono ?_;rintro e Y ⟨pl,rfl,e0⟩;have J:Hid (Ch w.heap.size NoX [] Z Y):=d9.o.trans (Ch.up _ _ _ e0);have e4:Hid (Tb Y Z.heap.size 3 [.int .i64 (k:Nat)]):=(e0.block _ k8.o.bx.lt).trans k8.o;have j9:Hid (Z.heap.size<=Z.heap.size):=leR;clear e0
    go_wp2_with fail
    refine hK.out _ _ (d1.o Y (J.o.wide (by decide))) (fun hHeld10=>?_);clear hK K
    try simp only[Act.put,Ja,Je,Jf]
    refine tk 11 40 (v:=?_) rfl rfl (by kernel_rfl) (fun _ _ _ h=>h) (Or.inl ⟨by rfl,?_⟩) (by assumption) ?_
    rotate_left
    ·(intro w E;(try dsimp only at E);go_simp;(try with_reducible rfl))
    try simp only[Act.put,Ja,Je,Jf]
    refine tk 12 41 (v:=?_) rfl rfl (by kernel_rfl) (fun _ _ _ h=>h) (Or.inl ⟨by rfl,?_⟩) (by assumption) ?_
    rotate_left
    ·(intro w E;(try dsimp only at E);go_simp;(try with_reducible rfl))
    try simp only[Act.put,Ja,Je,Jf]
    obtain⟨aM,hM,R⟩:=l2.o Y J.o;obtain⟨x0,p0⟩:=O7 (i:=k*8) hM (by rw[R];omega);have r0:=(G.o Y J.o).fz (k*8);obtain⟨x1,p1⟩:=O7 (i:=k*8+1) hM (by rw[R];omega);have r1:=(G.o Y J.o).fz (k*8+1);obtain⟨x2,p2⟩:=O7 (i:=k*8+2) hM (by rw[R];omega);have r2:=(G.o Y J.o).fz (k*8+2);obtain⟨x3,p3⟩:=O7 (i:=k*8+3) hM (by rw[R];omega);have r3:=(G.o Y J.o).fz (k*8+3);obtain⟨x4,p4⟩:=O7 (i:=k*8+4) hM (by rw[R];omega);have r4:=(G.o Y J.o).fz (k*8+4);obtain⟨x5,p5⟩:=O7 (i:=k*8+5) hM (by rw[R];omega);have r5:=(G.o Y J.o).fz (k*8+5);obtain⟨x6,p6⟩:=O7 (i:=k*8+6) hM (by rw[R];omega);have r6:=(G.o Y J.o).fz (k*8+6);obtain⟨x7,p7⟩:=O7 (i:=k*8+7) hM (by rw[R];omega);have r7:=(G.o Y J.o).fz (k*8+7);have a8:=Hd ((G.o Y J.o).put8k l1.o hM R c6 (CT Z.heap.size k pl) (v0:=.int .i64 (k:Nat)) (v1:=.pointer none) (v2:=.bool false) (v3:=.bool false) (v4:=.slice (some ⟨Z.heap.size,0,none⟩) 1 1) (v5:=.int .i64 (k:Nat)) (v6:=.bool pl) (v7:=.slice none 0 0) rfl);obtain⟨Wd,d4⟩:∃W,((((((((Y.setCell ⟨mb,k*8,none⟩ (.int .i64 (k:Nat))).setCell ⟨mb,k*8+1,none⟩ (.pointer none)).setCell ⟨mb,k*8+2,none⟩ (.bool false)).setCell ⟨mb,k*8+3,none⟩ (.bool false)).setCell ⟨mb,k*8+4,none⟩ (.slice (some ⟨Z.heap.size,0,none⟩) 1 1)).setCell ⟨mb,k*8+5,none⟩ (.int .i64 (k:Nat))).setCell ⟨mb,k*8+6,none⟩ (.bool pl)).setCell ⟨mb,k*8+7,none⟩ (.slice none 0 0))=W:=⟨_,rfl⟩;rw[d4]at a8;have h3:=Hd d4;have e3:Hid (Ch w.heap.size NoX [some 49] Z Wd):=(J.o.wide (by decide)).trans (Ch.bar a8.o.2.2 j7.o (fun h=>h) (by rw[(G.o Y J.o).ty];simp));have g6:Hid (Tb Wd Z.heap.size 3 [.int .i64 (k:Nat)]):=(a8.o.2.2.block Z.heap.size e4.o.bx.lt (fun e=>by have h1:=e4.o.ty;rw[e,(G.o Y J.o).ty]at h1;exact absurd h1 (by decide))).trans e4.o;clear hM R d4;refine wpAnyH_ready (rs:=[13]) (by kernel_rfl) (by simp) ?_;refine AllReadyH.cons rfl (fun K hK=>?_) AllReadyH.nil
    go_simp
    try rw[h3.o]
    refine hK.out _ _ (d1.o Wd e3.o) (fun hHeld13=>?_);clear hK K
    try simp only[Act.put,Ja,Je,Jf]
    refine wpAnyH_done (by kernel_rfl) ?_ _
    go_wp2
    go_meet
    exact⟨Z.heap.size,pl,a8.o.1,a8.o.2.1,g6.o,j9.o,e3.o⟩
   go_simp
   go_at_call 27
   refine(l0.o Z.drew).mono ?_;rintro e Wa ⟨pl,rfl,e0⟩;have d9:Hid (Ch w.heap.size NoX [] Z Wa):=by have h0:Ch w.heap.size NoX [] Z.drew Wa:=Ch.up _ _ _ e0;exact⟨h0.os,h0.tape,h0.output,h0.size,h0.block⟩
   clear e0
   go_wp2_with fail
   refine hK.out _ _ (d1.o Wa (d9.o.wide (by decide))) (fun hHeld10=>?_);clear hK K
   try simp only[Act.put,Ja,Je,Jf]
   refine wpAnyH_ready (rs:=[7]) (by kernel_rfl) (by simp) ?_;refine AllReadyH.cons rfl (fun K hK=>?_) AllReadyH.nil
   go_simp
   obtain⟨Y,f5⟩:∃W,Wa.alloc (.cells #[.int .i64 (k:Nat)] 3)=W:=⟨_,rfl⟩;have q2:=Hd f5;have O:Hid (Ch w.heap.size NoX [] Z Y):=by unfold Hid;rw[<-f5];exact d9.o.trans (Ch.up _ _ _ (Oy _ _))
   have e5:Hid (Tb Y Wa.heap.size 3 [.int .i64 (k:Nat)]):=by unfold Hid;rw[<-f5];exact Js
   have k7:Hid (Z.heap.size<=Wa.heap.size):=d9.o.size
   try rw[q2.o]
   refine hK.out _ _ (d1.o Y (O.o.wide (by decide))) (fun hHeld7=>?_);clear hK K f5
   try simp only[Act.put,Ja,Je,Jf]
   refine tk 11 40 (v:=?_) rfl rfl (by kernel_rfl) (fun _ _ _ h=>h) (Or.inl ⟨by rfl,?_⟩) (by assumption) ?_
   rotate_left
   ·(intro w E;(try dsimp only at E);go_simp;(try with_reducible rfl))
   try simp only[Act.put,Ja,Je,Jf]
   refine tk 12 41 (v:=?_) rfl rfl (by kernel_rfl) (fun _ _ _ h=>h) (Or.inl ⟨by rfl,?_⟩) (by assumption) ?_
   rotate_left
   ·(intro w E;(try dsimp only at E);go_simp;(try with_reducible rfl))
   try simp only[Act.put,Ja,Je,Jf]
   obtain⟨aM,hM,R⟩:=l2.o Y O.o;obtain⟨x0,p0⟩:=O7 (i:=k*8) hM (by rw[R];omega);have r0:=(G.o Y O.o).fz (k*8);obtain⟨x1,p1⟩:=O7 (i:=k*8+1) hM (by rw[R];omega);have r1:=(G.o Y O.o).fz (k*8+1);obtain⟨x2,p2⟩:=O7 (i:=k*8+2) hM (by rw[R];omega);have r2:=(G.o Y O.o).fz (k*8+2);obtain⟨x3,p3⟩:=O7 (i:=k*8+3) hM (by rw[R];omega);have r3:=(G.o Y O.o).fz (k*8+3);obtain⟨x4,p4⟩:=O7 (i:=k*8+4) hM (by rw[R];omega);have r4:=(G.o Y O.o).fz (k*8+4);obtain⟨x5,p5⟩:=O7 (i:=k*8+5) hM (by rw[R];omega);have r5:=(G.o Y O.o).fz (k*8+5);obtain⟨x6,p6⟩:=O7 (i:=k*8+6) hM (by rw[R];omega);have r6:=(G.o Y O.o).fz (k*8+6);obtain⟨x7,p7⟩:=O7 (i:=k*8+7) hM (by rw[R];omega);have r7:=(G.o Y O.o).fz (k*8+7);have a8:=Hd ((G.o Y O.o).put8k l1.o hM R c6 (CT Wa.heap.size k pl) (v0:=.int .i64 (k:Nat)) (v1:=.pointer none) (v2:=.bool false) (v3:=.bool false) (v4:=.slice (some ⟨Wa.heap.size,0,none⟩) 1 1) (v5:=.int .i64 (k:Nat)) (v6:=.bool pl) (v7:=.slice none 0 0) rfl);obtain⟨Wd,d4⟩:∃W,((((((((Y.setCell ⟨mb,k*8,none⟩ (.int .i64 (k:Nat))).setCell ⟨mb,k*8+1,none⟩ (.pointer none)).setCell ⟨mb,k*8+2,none⟩ (.bool false)).setCell ⟨mb,k*8+3,none⟩ (.bool false)).setCell ⟨mb,k*8+4,none⟩ (.slice (some ⟨Wa.heap.size,0,none⟩) 1 1)).setCell ⟨mb,k*8+5,none⟩ (.int .i64 (k:Nat))).setCell ⟨mb,k*8+6,none⟩ (.bool pl)).setCell ⟨mb,k*8+7,none⟩ (.slice none 0 0))=W:=⟨_,rfl⟩;rw[d4]at a8;have h3:=Hd d4;have e3:Hid (Ch w.heap.size NoX [some 49] Z Wd):=(O.o.wide (by decide)).trans (Ch.bar a8.o.2.2 j7.o (fun h=>h) (by rw[(G.o Y O.o).ty];simp));have g6:Hid (Tb Wd Wa.heap.size 3 [.int .i64 (k:Nat)]):=(a8.o.2.2.block Wa.heap.size e5.o.bx.lt (fun e=>by have h1:=e5.o.ty;rw[e,(G.o Y O.o).ty]at h1;exact absurd h1 (by decide))).trans e5.o;clear hM R d4;refine wpAnyH_ready (rs:=[13]) (by kernel_rfl) (by simp) ?_;refine AllReadyH.cons rfl (fun K hK=>?_) AllReadyH.nil
   go_simp
   try rw[h3.o]
   refine hK.out _ _ (d1.o Wd e3.o) (fun hHeld13=>?_);clear hK K
   try simp only[Act.put,Ja,Je,Jf]
   refine wpAnyH_done (by kernel_rfl) ?_ _
   go_wp2
   go_meet
   exact⟨Wa.heap.size,pl,a8.o.1,a8.o.2.1,g6.o,k7.o,e3.o⟩
  obtain⟨g,pl,hm,hz,hg,m6,hc⟩:=hcut
  rename World=>w6
  have o5:=Hd hm;have q3:=Hd hz;have o2:=Hd hg;have j8:=Hd m6;have o1:=Hd hc;have c8:=Hd (j5.o.ch hc (.inr (.inr (by decide))));have d2:=Hd (l5.o.ch hc (.inr (.inr (by decide))));have g5:w6.heap[gm]? = wr.heap[gm]? := by
   have e1:=b7.o.block gm a7.o.hm.ty0.2;exact(hc.block gm (Jn a7.o.hm.ty0.2 b7.o.size) (.inr (.inr (by rw[Iq e1,a7.o.hm.ty0.1];simp)))).trans e1
  have b9:Tb w6 hb 3 (labV L):=by
   have e1:=b7.o.block hb a7.o.hd.bx.lt;exact((hc.block hb (Jn a7.o.hd.bx.lt b7.o.size) (.inr (.inr (by rw[Iq e1,a7.o.hd.ty];decide)))).trans e1).trans a7.o.hd
  have g3:=Hd (a7.o.hm.blk g5);have g1:=g3.o.ty0.1;have e6:Hid (eb≠gm):=fun e=>by have h1:=c8.o.ty;rw[e,g1]at h1;cases h1
  have e7:Hid (V≠gm):=fun e=>by have h1:=d2.o.ty;rw[e,g1]at h1;cases h1
  have l3:Hid (hb≠gm):=fun e=>by have h1:=b9.ty;rw[e,g1]at h1;cases h1
  have d5:Hid (eb≠hb/\V≠hb):=⟨fun e=>by have h1:=c8.o.ty;rw[e,b9.ty]at h1;exact absurd h1 (by decide),fun e=>by have h1:=d2.o.ty;rw[e,b9.ty]at h1;exact absurd h1 (by decide)⟩;have g2:=Hd b9;have g9:Hid (∀W:World,W.heap[eb]? = w6.heap[eb]? -> W.heap[V]? = w6.heap[V]? -> W.cell? ⟨eb,3,none⟩=some (.slice (some ⟨hb,0,none⟩) n n)/\W.cell? ⟨V,0,none⟩=some (.int .i64 u.op)/\W.cell? ⟨V,1,none⟩=some (.string (Oo u.sort))/\W.cell? ⟨V,2,none⟩=some (.string (Oo u.text))/\W.cell? ⟨V,3,none⟩=some (.int .i64 u.a)/\W.cell? ⟨V,4,none⟩=some (.int .i64 u.b)/\W.cell? ⟨V,5,none⟩=some (.slice pk nk ck)):=fun W e1 e2=>by
   have a1:Tb W eb 59 _:=e1.trans c8.o;have a2:Tb W V 38 _:=e2.trans d2.o;exact⟨a1.bx.cell 3,a2.bx.cell 0,a2.bx.cell 1,a2.bx.cell 2,a2.bx.cell 3,a2.bx.cell 4,a2.bx.cell 5⟩
  have k9:=Hd (OS u pk nk ck w6.drew (g3.o.blk rfl:Hz w6.drew gm Hs) l6.o (by have:=a7.o.hh;omega));have o4:Hid (L.length=n):=a7.o.hl;have o6:Hid (∀wz q Hs',Bar gm w6 wz->Hz wz gm Hs'->((Kd Hs (R3 u)=some q/\Hs'=Hs)∨(Kd Hs (R3 u)=none/\q=Hs.length/\Hs'=Hs++[R3 u]))->∀w8,Tb w8 eb 59 [.slice (some ⟨bt,0,none⟩) n ct,.int .i64 (Lm T 2 (k+1)),.int .i64 (Lm T 1 (k+1)),.slice (some ⟨hb,0,none⟩) n n,.slice (some ⟨ub,0,none⟩) n n,.slice (some ⟨mb,0,none⟩) n n,.slice none 0 0,.int .i64 0,.map (some sb),.slice none 0 0,.bool false,.slice none 0 0,.slice none 0 0]->Bar eb (wz.setCell ⟨hb,k,none⟩ (.int .i64 (q:Nat))) w8->NL w n (.slice (some ⟨bt,0,none⟩) n ct) T A2 eb hb ub mb sb gm (k+1) w8 (L.set k q) (ms++[CT g k pl]) Hs'):=fun wz q Hs' b1 b2 b3 w8 b4 b5=>a7.o.next c6 b7.o o5.o q3.o o2.o j8.o o1.o b1 b2 (by rw[h2.o];exact b3) b4 b5;clear hm hz hg m6 hc g5 b9 g1 k0 k1 k2 k3 k4 k5
  go_upto_region 7 with fail
  go_cut [] (fun wx=>∃q Hs' wz,Bar gm w6 wz/\Hz wz gm Hs'/\((Kd Hs (R3 u)=some q/\Hs'=Hs)∨(Kd Hs (R3 u)=none/\q=Hs.length/\Hs'=Hs++[R3 u]))/\wx=wz.setCell ⟨hb,k,none⟩ (.int .i64 (q:Nat)))
  case first=>
   refine Ph 10 rfl (S:=fun W=>W.cell? ⟨eb,3,none⟩=some (.slice (some ⟨hb,0,none⟩) n n)/\W.cell? ⟨V,0,none⟩=some (.int .i64 u.op)/\W.cell? ⟨V,1,none⟩=some (.string (Oo u.sort))/\W.cell? ⟨V,2,none⟩=some (.string (Oo u.text))/\W.cell? ⟨V,3,none⟩=some (.int .i64 u.a)/\W.cell? ⟨V,4,none⟩=some (.int .i64 u.b)/\W.cell? ⟨V,5,none⟩=some (.slice pk nk ck)) (by kernel_rfl) (g9.o _ rfl rfl) (fun hHeld=>?_);refine tk 0 42 (v:=?_) rfl rfl (by kernel_rfl) (fun _ _ _ h=>h) (Or.inl ⟨by rfl,?_⟩) (by assumption) ?_
   rotate_left
   ·(intro w E;(try dsimp only at E);go_simp;(try with_reducible rfl))
   try simp only[Act.put,Ja,Je,Jf]
   refine tk 1 43 (v:=?_) rfl rfl (by kernel_rfl) (fun _ _ _ h=>h) (Or.inl ⟨by rfl,?_⟩) (by assumption) ?_
   rotate_left
   ·(intro w E;(try dsimp only at E);go_simp;(try with_reducible rfl))
   try simp only[Act.put,Ja,Je,Jf]
   refine tk 2 44 (v:=?_) rfl rfl (by kernel_rfl) (fun _ _ _ h=>h) (Or.inl ⟨by rfl,?_⟩) (by assumption) ?_
   rotate_left
   ·(intro w E;(try dsimp only at E);go_simp;(try with_reducible rfl))
   try simp only[Act.put,Ja,Je,Jf]
   refine tk 3 45 (v:=?_) rfl rfl (by kernel_rfl) (fun _ _ _ h=>h) (Or.inl ⟨by rfl,?_⟩) (by assumption) ?_
   rotate_left
   ·(intro w E;(try dsimp only at E);go_simp;(try with_reducible rfl))
   try simp only[Act.put,Ja,Je,Jf]
   refine tk 4 46 (v:=?_) rfl rfl (by kernel_rfl) (fun _ _ _ h=>h) (Or.inl ⟨by rfl,?_⟩) (by assumption) ?_
   rotate_left
   ·(intro w E;(try dsimp only at E);go_simp;(try with_reducible rfl))
   try simp only[Act.put,Ja,Je,Jf]
   refine tk 5 47 (v:=?_) rfl rfl (by kernel_rfl) (fun _ _ _ h=>h) (Or.inl ⟨by rfl,?_⟩) (by assumption) ?_
   rotate_left
   ·(intro w E;(try dsimp only at E);go_simp;(try with_reducible rfl))
   try simp only[Act.put,Ja,Je,Jf]
   refine tk 6 48 (v:=?_) rfl rfl (by kernel_rfl) (fun _ _ _ h=>h) (Or.inl ⟨by rfl,?_⟩) (by assumption) ?_
   rotate_left
   ·(intro w E;(try dsimp only at E);go_simp;(try with_reducible rfl))
   try simp only[Act.put,Ja,Je,Jf]
   refine wpAnyH_ready (rs:=[7]) (by kernel_rfl) (by simp) ?_;refine AllReadyH.cons rfl (fun K hK=>?_) AllReadyH.nil
   go_simp
   go_at_call 28
   refine k9.o.mono ?_;rintro e wz ⟨q,rfl,b1,b2⟩;have d8:Hid (Bar gm w6 wz):=⟨b1.os,b1.tape,b1.output,b1.size,b1.block⟩;have o7:Hid (wz.cell? ⟨eb,3,none⟩=some (.slice (some ⟨hb,0,none⟩) n n)/\wz.cell? ⟨V,0,none⟩=some (.int .i64 u.op)/\wz.cell? ⟨V,1,none⟩=some (.string (Oo u.sort))/\wz.cell? ⟨V,2,none⟩=some (.string (Oo u.text))/\wz.cell? ⟨V,3,none⟩=some (.int .i64 u.a)/\wz.cell? ⟨V,4,none⟩=some (.int .i64 u.b)/\wz.cell? ⟨V,5,none⟩=some (.slice pk nk ck)):=g9.o wz (d8.o.block eb c8.o.bx.lt e6.o) (d8.o.block V d2.o.bx.lt e7.o);have o0:Hid (∃Hs',Hz wz gm Hs'/\((Kd Hs (R3 u)=some q/\Hs'=Hs)∨(Kd Hs (R3 u)=none/\q=Hs.length/\Hs'=Hs++[R3 u]))):=b2.elim (fun h=>⟨Hs,h.2,.inl ⟨h.1,rfl⟩⟩) (fun h=>⟨_,h.2.2,.inr ⟨h.1,h.2.1,rfl⟩⟩);have j4:Hid (Tb wz hb 3 (labV L)):=(d8.o.block hb g2.o.bx.lt l3.o).trans g2.o;clear b1 b2
   go_wp2_with fail
   refine hK.out _ _ (o7.o) (fun hHeld7=>?_);clear hK K
   try simp only[Act.put,Ja,Je,Jf]
   refine tk 8 50 (v:=?_) rfl rfl (by kernel_rfl) (fun _ _ _ h=>h) (Or.inl ⟨by rfl,?_⟩) (by assumption) ?_
   rotate_left
   ·(intro w E;(try dsimp only at E);go_simp;(try with_reducible rfl))
   try simp only[Act.put,Ja,Je,Jf]
   have v1:=j4.o.bx.cell k;rw[Ks (by rw[o4.o];exact c6)]at v1;have v2:=j4.o.bx.fz k;refine wpAnyH_ready (rs:=[9]) (by kernel_rfl) (by simp) ?_;refine AllReadyH.cons rfl (fun K hK=>?_) AllReadyH.nil
   go_simp
   refine hK.out _ _ (g9.o _ ((Jh wz ⟨hb,k,none⟩ _ eb d5.o.1).trans (d8.o.block eb c8.o.bx.lt e6.o)) ((Jh wz ⟨hb,k,none⟩ _ V d5.o.2).trans (d8.o.block V d2.o.bx.lt e7.o))) (fun hHeld9=>?_);clear hK K
   try simp only[Act.put,Ja,Je,Jf]
   refine wpAnyH_done (by kernel_rfl) ?_ _
   go_wp2
   go_meet
   obtain⟨Hs',b2,b3⟩:=o0.o;exact⟨q,Hs',wz,d8.o,b2,b3,rfl⟩
  rename World=>w7
  obtain⟨q,Hs',wz,b1,b2,b3,hw⟩:=hcut;have d0:Hid (Tb w7 eb 59 [.slice (some ⟨bt,0,none⟩) n ct,.int .i64 (Lm T 2 k),.int .i64 (Lm T 1 k),.slice (some ⟨hb,0,none⟩) n n,.slice (some ⟨ub,0,none⟩) n n,.slice (some ⟨mb,0,none⟩) n n,.slice none 0 0,.int .i64 0,.map (some sb),.slice none 0 0,.bool false,.slice none 0 0,.slice none 0 0]):=by
   unfold Hid;rw[hw];exact I3 ((b1.block eb c8.o.bx.lt e6.o).trans c8.o) d5.o.1
  have o8:Hid (Tb w7 V 38 [.int .i64 u.op,.string (Oo u.sort),.string (Oo u.text),.int .i64 u.a,.int .i64 u.b,.slice pk nk ck]):=by
   unfold Hid;rw[hw];exact I3 ((b1.block V d2.o.bx.lt e7.o).trans d2.o) d5.o.2
  have g7:Hid (∀w8,Tb w8 eb 59 [.slice (some ⟨bt,0,none⟩) n ct,.int .i64 (Lm T 2 (k+1)),.int .i64 (Lm T 1 (k+1)),.slice (some ⟨hb,0,none⟩) n n,.slice (some ⟨ub,0,none⟩) n n,.slice (some ⟨mb,0,none⟩) n n,.slice none 0 0,.int .i64 0,.map (some sb),.slice none 0 0,.bool false,.slice none 0 0,.slice none 0 0]->Bar eb w7 w8->∃(k':Nat) (L:List Nat) (ms:List Me) (Hs:List Tm),k'<=n/\(.int .i64 ((k:Int)+1):Value)=.int .i64 (k':Nat)/\NL w n (.slice (some ⟨bt,0,none⟩) n ct) T A2 eb hb ub mb sb gm k' w8 L ms Hs):=fun w8 b4 b5=>⟨k+1,_,_,_,c6,by go_num,o6.o wz q Hs' b1 b2 b3 w8 b4 (by rw[<-hw];exact b5)⟩;have y0:=o8.o.bx.cell 0;have y1:=d0.o.bx.cell 1;have y2:=d0.o.bx.cell 2;have y3:=d0.o.bx.fz 1;have y4:=d0.o.bx.fz 2;have t1:Lm T 2 (k+1)=if u.op=2 then(k:Int)else Lm T 2 k:=by rw[<-h2.o];rfl
  have t2:Lm T 1 (k+1)=if u.op=1 then(k:Int)else Lm T 1 k:=by rw[<-h2.o];rfl
  clear b1 b2 b3 hw k9
  by_cases c2:u.op=2
  ·have y5:(u.op==2)=true:=by rw[J2];exact c2
   have HR:=Hd (g7.o (w7.setCell ⟨eb,1,none⟩ (.int .i64 (k:Nat))) (by rw[t1,t2,if_pos c2,if_neg (by omega)];exact d0.o.set 1 _) (Bar.setCell eb 1 w7 _));clear c2 t1 t2
   go_wp2
   go_roundw
   case rel=>exact HR.o
   simp[intOf];omega
  have y5:(u.op==2)=false:=by rw[Jc];exact c2
  by_cases c1:u.op=1
  ·have y6:(u.op==1)=true:=by rw[J2];exact c1
   have HR:=Hd (g7.o (w7.setCell ⟨eb,2,none⟩ (.int .i64 (k:Nat))) (by rw[t1,t2,if_neg c2,if_pos c1];exact d0.o.set 2 _) (Bar.setCell eb 2 w7 _));clear c1 c2 t1 t2
   go_wp2
   go_roundw
   case rel=>exact HR.o
   simp[intOf];omega
  have y6:(u.op==1)=false:=by rw[Jc];exact c1
  have HR:=Hd (g7.o w7 (by rw[t1,t2,if_neg c2,if_neg c1];exact d0.o) (Bar.refl _ _));clear c1 c2 t1 t2
  go_wp2
  go_roundw
  case rel=>exact HR.o
  simp[intOf];omega
 have z1:decide ((k:Int)<(n:Int))=false:=Jd (by omega);have z2:decide (k<n)=false:=Jd c6;have n1:k=n:=by omega
 rw[n1]at nl a7;clear n1 nl
 go_wp2
 go_ret
 exact⟨A2,eb,hb,ub,mb,sb,gm,L,ms,Hs,rfl,n8.o.symm,a7.o⟩
end Go.Proofs.YtfkagjelljnpdaaGreatDoor
