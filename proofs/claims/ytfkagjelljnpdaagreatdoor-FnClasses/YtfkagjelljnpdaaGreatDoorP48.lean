import Derived.Test.YtfkagjelljnpdaaGreatDoorP36
import Derived.Test.YtfkagjelljnpdaaGreatDoorP37
import Derived.Test.YtfkagjelljnpdaaGreatDoorP47
set_option linter.all false
set_option maxRecDepth 100000
set_option maxHeartbeats 16000000
namespace Go.Proofs.YtfkagjelljnpdaaGreatDoor
open ChangeShapes WideShapes ChangeAt RowKit Proofs.Tryz
variable {F:List Fn}{S:List (List UInt8)}{T:List Tm}{vf vk vs vt:Value}{w:World}
theorem OZ{Fs:List (Int×Bool)}(h:BankAt w vs vf vt S F T)(hz:BankZ S F T)(hn:G4 T)(hv:Vars w)(hk:FactsAt w vk Fs) :
 Calls prog 10 #[.agg #[vs,vf,vt],vk] w fun e w'=>Nd (F9 S F T Fs) e/\Up w w':=by
 obtain⟨V,R⟩:=O2 (w.alloc (.cells #[vs,vf,vt] 27));have J:Up w V:=by rw[<-R];exact Oy _ _
 have a7:Bx V w.heap.size [vs,vf,vt]:=by rw[<-R];exact Oq w _ _
 have a1:=Hd R;have O:=Hd J;have d5:Hid (∀W,Up V W->Vars W):=fun W hW=>hv.bl (J.trans (hW.mono J.size));have b0:=Hd (h.bl J);have d2:=Hd (hk.bl J);have HZ:=Hd hz;have HG:Hid (∀W,Up V W->Calls prog 24 #[.agg #[vs,vf,vt]] W fun e w'=>e=.returned (.bool (Ek S Ep F T))/\Up V w'):=fun W hW=>by
  refine(D5 (b0.o.bl hW) hz hn (d5.o W hW)).mono ?_;rintro e w' ⟨rfl,hb⟩;exact⟨by rw[OB],hW.trans (hb.mono hW.size)⟩
 obtain⟨ps,cs,rfl,-,-,-⟩:=h.s;obtain⟨pf,cf,rfl,-,-,-⟩:=h.f;obtain⟨pt,ct,rfl,-,-,-⟩:=h.t;obtain⟨pk,ck,rfl,e2,e3,-⟩:=hk;have E:Hid (∀W,Up V W->W.cell? ⟨w.heap.size,0,none⟩=some (.slice ps S.length cs)/\W.cell? ⟨w.heap.size,1,none⟩=some (.slice pf F.length cf)/\W.cell? ⟨w.heap.size,2,none⟩=some (.slice pt T.length ct)):=fun W hW=>(a7.bl a7.lt hW).c3;clear h hz hv hn R J a7
 by_cases q:Fs.length<=300
 ·have z1:decide ((Fs.length:Int)<=300)=true:=Jb (by omega);have z2:decide (Fs.length<=300)=true:=Jb q
  cases Y:Ek S Ep F T with
  | false=>
    have HN:Hid (¬ F9 S F T Fs):=fun h=>by rw[h.1]at Y;cases Y
    rw[Y]at HG;clear Y
    go_in
    go_upto_region 1 with fail
    rw[a1.o];refine Ph 15 rfl (S:=fun W=>W.cell? ⟨w.heap.size,0,none⟩=some (.slice ps S.length cs)/\W.cell? ⟨w.heap.size,1,none⟩=some (.slice pf F.length cf)/\W.cell? ⟨w.heap.size,2,none⟩=some (.slice pt T.length ct)) (by kernel_rfl) (E.o _ (Ji _ _).drew) (fun hHeld=>?_);refine tk 0 5 (v:=?_) rfl rfl (by kernel_rfl) (fun _ _ _ h=>h) (Or.inl ⟨by rfl,?_⟩) (by assumption) ?_
    rotate_left
    ·(intro w j;(try dsimp only at j);go_simp;(try with_reducible rfl))
    try simp only[Act.put,Ja,Je,Jf]
    refine tk 1 6 (v:=?_) rfl rfl (by kernel_rfl) (fun _ _ _ h=>h) (Or.inl ⟨by rfl,?_⟩) (by assumption) ?_
    rotate_left
    ·(intro w j;(try dsimp only at j);go_simp;(try with_reducible rfl))
    try simp only[Act.put,Ja,Je,Jf]
    refine tk 2 7 (v:=?_) rfl rfl (by kernel_rfl) (fun _ _ _ h=>h) (Or.inl ⟨by rfl,?_⟩) (by assumption) ?_
    rotate_left
    ·(intro w j;(try dsimp only at j);go_simp;(try with_reducible rfl))
    try simp only[Act.put,Ja,Je,Jf]
    refine tk 3 8 (v:=?_) rfl rfl (by kernel_rfl) (fun _ _ _ h=>h) (Or.inl ⟨by rfl,?_⟩) (by assumption) ?_
    rotate_left
    ·(intro w j;(try dsimp only at j);go_simp;(try with_reducible rfl))
    try simp only[Act.put,Ja,Je,Jf]
    refine tk 4 9 (v:=?_) rfl rfl (by kernel_rfl) (fun _ _ _ h=>h) (Or.inl ⟨by rfl,?_⟩) (by assumption) ?_
    rotate_left
    ·(intro w j;(try dsimp only at j);go_simp;(try with_reducible rfl))
    try simp only[Act.put,Ja,Je,Jf]
    refine wpAnyH_ready (rs:=[5]) (by kernel_rfl) (by simp) ?_;refine AllReadyH.cons rfl (fun K hK=>?_) AllReadyH.nil
    go_simp
    go_at_call 24
    refine(HG.o _ (Ji _ _).drew).mono ?_;rintro e w2 ⟨rfl,hb2⟩;have G:=Hd hb2;clear hb2
    go_wp2_with fail
    refine hK.out _ _ (E.o _ G.o) (fun hHeld5=>?_);clear hK K
    try simp only[Act.put,Ja,Je,Jf]
    refine tk 6 11 (v:=?_) rfl rfl (by kernel_rfl) (fun _ _ _ h=>h) (Or.inl ⟨by rfl,?_⟩) (by assumption) ?_
    rotate_left
    ·(intro w j;(try dsimp only at j);go_simp;(try with_reducible rfl))
    try simp only[Act.put,Ja,Je,Jf]
    refine tk 7 12 (v:=?_) rfl rfl (by kernel_rfl) (fun _ _ _ h=>h) (Or.inl ⟨by rfl,?_⟩) (by assumption) ?_
    rotate_left
    ·(intro w j;(try dsimp only at j);go_simp;(try with_reducible rfl))
    try simp only[Act.put,Ja,Je,Jf]
    refine tk 8 13 (v:=undef) rfl rfl (by kernel_rfl) (fun _ _ _ h=>h) (Or.inr ⟨by rfl,rfl⟩) (by assumption) ?_
    try simp only[Act.put,Ja,Je,Jf]
    refine tk 9 14 (v:=undef) rfl rfl (by kernel_rfl) (fun _ _ _ h=>h) (Or.inr ⟨by rfl,rfl⟩) (by assumption) ?_
    try simp only[Act.put,Ja,Je,Jf]
    refine tk 10 15 (v:=undef) rfl rfl (by kernel_rfl) (fun _ _ _ h=>h) (Or.inr ⟨by rfl,rfl⟩) (by assumption) ?_
    try simp only[Act.put,Ja,Je,Jf]
    refine tk 11 16 (v:=undef) rfl rfl (by kernel_rfl) (fun _ _ _ h=>h) (Or.inr ⟨by rfl,rfl⟩) (by assumption) ?_
    try simp only[Act.put,Ja,Je,Jf]
    refine tk 12 17 (v:=undef) rfl rfl (by kernel_rfl) (fun _ _ _ h=>h) (Or.inr ⟨by rfl,rfl⟩) (by assumption) ?_
    try simp only[Act.put,Ja,Je,Jf]
    refine tk 13 18 (v:=?_) rfl rfl (by kernel_rfl) (fun _ _ _ h=>h) (Or.inl ⟨by rfl,?_⟩) (by assumption) ?_
    rotate_left
    ·(intro w j;(try dsimp only at j);go_simp;(try with_reducible rfl))
    try simp only[Act.put,Ja,Je,Jf]
    refine tk 14 4 (v:=?_) rfl rfl (by kernel_rfl) (fun _ _ _ h=>h) (Or.inl ⟨by rfl,?_⟩) (by assumption) ?_
    rotate_left
    ·(intro w j;(try dsimp only at j);go_simp;(try with_reducible rfl))
    try simp only[Act.put,Ja,Je,Jf]
    refine wpAnyH_done (by kernel_rfl) ?_ _
    go_wp2
    go_ret
    exact⟨Nd.no HN.o,O.o.trans (G.o.mono O.o.size)⟩
  | true=>
    obtain⟨hn,hT,hE⟩:=Rz Y HZ.o;have d4:Hid (∀W,Up V W->_):=fun W hW=>Wh (d2.o.bl hW) q;have d0:Hid (∀W v,Up V W->Ip W v (Fs.map (fun f=>f.1))->_):=fun W v hW hv=>Be (b0.o.bl hW).t hn hv (by rw[Z6];omega);have b1:Hid ((¬ ∃x∈Fs.map (fun f=>f.1),N6 T x)↔F9 S F T Fs):=by
     constructor
     ·intro d7;refine⟨Y,q,fun f hf=>Classical.byContradiction fun hc=>d7 ⟨f.1,Yu.2 ⟨f,hf,rfl⟩,fun h=>hc ⟨h.1,h.2.1,h.2.2⟩⟩⟩
     rintro⟨_,_,hf⟩ ⟨x,hx,hb⟩;obtain⟨f,hm,rfl⟩:=Yu.1 hx;exact hb (hf f hm)
    rw[Y]at HG;clear Y hT hE
    go_in
    go_upto_region 1 with fail
    rw[a1.o];refine Ph 15 rfl (S:=fun W=>W.cell? ⟨w.heap.size,0,none⟩=some (.slice ps S.length cs)/\W.cell? ⟨w.heap.size,1,none⟩=some (.slice pf F.length cf)/\W.cell? ⟨w.heap.size,2,none⟩=some (.slice pt T.length ct)) (by kernel_rfl) (E.o _ (Ji _ _).drew) (fun hHeld=>?_);refine tk 0 5 (v:=?_) rfl rfl (by kernel_rfl) (fun _ _ _ h=>h) (Or.inl ⟨by rfl,?_⟩) (by assumption) ?_
    rotate_left
    ·(intro w j;(try dsimp only at j);go_simp;(try with_reducible rfl))
    try simp only[Act.put,Ja,Je,Jf]
    refine tk 1 6 (v:=?_) rfl rfl (by kernel_rfl) (fun _ _ _ h=>h) (Or.inl ⟨by rfl,?_⟩) (by assumption) ?_
    rotate_left
    ·(intro w j;(try dsimp only at j);go_simp;(try with_reducible rfl))
    try simp only[Act.put,Ja,Je,Jf]
    refine tk 2 7 (v:=?_) rfl rfl (by kernel_rfl) (fun _ _ _ h=>h) (Or.inl ⟨by rfl,?_⟩) (by assumption) ?_
    rotate_left
    ·(intro w j;(try dsimp only at j);go_simp;(try with_reducible rfl))
    try simp only[Act.put,Ja,Je,Jf]
    refine tk 3 8 (v:=?_) rfl rfl (by kernel_rfl) (fun _ _ _ h=>h) (Or.inl ⟨by rfl,?_⟩) (by assumption) ?_
    rotate_left
    ·(intro w j;(try dsimp only at j);go_simp;(try with_reducible rfl))
    try simp only[Act.put,Ja,Je,Jf]
    refine tk 4 9 (v:=?_) rfl rfl (by kernel_rfl) (fun _ _ _ h=>h) (Or.inl ⟨by rfl,?_⟩) (by assumption) ?_
    rotate_left
    ·(intro w j;(try dsimp only at j);go_simp;(try with_reducible rfl))
    try simp only[Act.put,Ja,Je,Jf]
    refine wpAnyH_ready (rs:=[5]) (by kernel_rfl) (by simp) ?_;refine AllReadyH.cons rfl (fun K hK=>?_) AllReadyH.nil
    go_simp
    go_at_call 24
    refine(HG.o _ (Ji _ _).drew).mono ?_;rintro e w2 ⟨rfl,hb2⟩;have G:=Hd hb2;clear hb2
    go_wp2_with fail
    refine hK.out _ _ (E.o _ G.o) (fun hHeld5=>?_);clear hK K
    try simp only[Act.put,Ja,Je,Jf]
    refine tk 6 11 (v:=?_) rfl rfl (by kernel_rfl) (fun _ _ _ h=>h) (Or.inl ⟨by rfl,?_⟩) (by assumption) ?_
    rotate_left
    ·(intro w j;(try dsimp only at j);go_simp;(try with_reducible rfl))
    try simp only[Act.put,Ja,Je,Jf]
    refine tk 7 12 (v:=?_) rfl rfl (by kernel_rfl) (fun _ _ _ h=>h) (Or.inl ⟨by rfl,?_⟩) (by assumption) ?_
    rotate_left
    ·(intro w j;(try dsimp only at j);go_simp;(try with_reducible rfl))
    try simp only[Act.put,Ja,Je,Jf]
    refine tk 8 13 (v:=?_) rfl rfl (by kernel_rfl) (fun _ _ _ h=>h) (Or.inl ⟨by rfl,?_⟩) (by assumption) ?_
    rotate_left
    ·(intro w j;(try dsimp only at j);go_simp;(try with_reducible rfl))
    try simp only[Act.put,Ja,Je,Jf]
    refine tk 9 14 (v:=?_) rfl rfl (by kernel_rfl) (fun _ _ _ h=>h) (Or.inl ⟨by rfl,?_⟩) (by assumption) ?_
    rotate_left
    ·(intro w j;(try dsimp only at j);go_simp;(try with_reducible rfl))
    try simp only[Act.put,Ja,Je,Jf]
    refine tk 10 15 (v:=?_) rfl rfl (by kernel_rfl) (fun _ _ _ h=>h) (Or.inl ⟨by rfl,?_⟩) (by assumption) ?_
    rotate_left
    ·(intro w j;(try dsimp only at j);go_simp;(try with_reducible rfl))
    try simp only[Act.put,Ja,Je,Jf]
    refine wpAnyH_ready (rs:=[11]) (by kernel_rfl) (by simp) ?_;refine AllReadyH.cons rfl (fun K hK=>?_) AllReadyH.nil
    go_simp
    go_at_call 26
    refine(d4.o _ G.o).mono ?_;rintro e w3 ⟨v3,rfl,b5,b2⟩;have d6:=Hd b5;have Z:=G.up b2;clear b2 b5
    go_wp2_with fail
    refine hK.out _ _ (E.o _ Z.o) (fun hHeld11=>?_);clear hK K
    try simp only[Act.put,Ja,Je,Jf]
    refine wpAnyH_ready (rs:=[12]) (by kernel_rfl) (by simp) ?_;refine AllReadyH.cons rfl (fun K hK=>?_) AllReadyH.nil
    go_simp
    go_at_call 25
    refine(d0.o _ _ Z.o d6.o).mono ?_;rintro e w4 ⟨⟨bb,rfl,b4⟩,b3⟩;have d1:=Hd b4;have a8:=Z.up b3;clear b4 b3
    go_wp2_with fail
    refine hK.out _ _ (E.o _ a8.o) (fun hHeld12=>?_);clear hK K
    try simp only[Act.put,Ja,Je,Jf]
    refine tk 13 18 (v:=?_) rfl rfl (by kernel_rfl) (fun _ _ _ h=>h) (Or.inl ⟨by rfl,?_⟩) (by assumption) ?_
    rotate_left
    ·(intro w j;(try dsimp only at j);go_simp;(try with_reducible rfl))
    try simp only[Act.put,Ja,Je,Jf]
    refine tk 14 4 (v:=?_) rfl rfl (by kernel_rfl) (fun _ _ _ h=>h) (Or.inl ⟨by rfl,?_⟩) (by assumption) ?_
    rotate_left
    ·(intro w j;(try dsimp only at j);go_simp;(try with_reducible rfl))
    try simp only[Act.put,Ja,Je,Jf]
    refine wpAnyH_done (by kernel_rfl) ?_ _
    go_wp2
    go_ret
    exact⟨⟨bb,rfl,d1.o.trans b1.o⟩,O.o.trans (a8.o.mono O.o.size)⟩
 have z1:decide ((Fs.length:Int)<=300)=false:=Jd (by omega);have z2:decide (Fs.length<=300)=false:=Jd q;have HN:Hid (¬ F9 S F T Fs):=fun h=>q h.2.1
 go_in
 go_upto_region 1 with fail
 rw[a1.o];refine Ph 15 rfl (S:=fun W=>W.cell? ⟨w.heap.size,0,none⟩=some (.slice ps S.length cs)/\W.cell? ⟨w.heap.size,1,none⟩=some (.slice pf F.length cf)/\W.cell? ⟨w.heap.size,2,none⟩=some (.slice pt T.length ct)) (by kernel_rfl) (E.o _ (Ji _ _).drew) (fun hHeld=>?_);refine tk 0 5 (v:=?_) rfl rfl (by kernel_rfl) (fun _ _ _ h=>h) (Or.inl ⟨by rfl,?_⟩) (by assumption) ?_
 rotate_left
 ·(intro w j;(try dsimp only at j);go_simp;(try with_reducible rfl))
 try simp only[Act.put,Ja,Je,Jf]
 refine tk 1 6 (v:=?_) rfl rfl (by kernel_rfl) (fun _ _ _ h=>h) (Or.inl ⟨by rfl,?_⟩) (by assumption) ?_
 rotate_left
 ·(intro w j;(try dsimp only at j);go_simp;(try with_reducible rfl))
 try simp only[Act.put,Ja,Je,Jf]
 refine tk 2 7 (v:=?_) rfl rfl (by kernel_rfl) (fun _ _ _ h=>h) (Or.inl ⟨by rfl,?_⟩) (by assumption) ?_
 rotate_left
 ·(intro w j;(try dsimp only at j);go_simp;(try with_reducible rfl))
 try simp only[Act.put,Ja,Je,Jf]
 refine tk 3 8 (v:=?_) rfl rfl (by kernel_rfl) (fun _ _ _ h=>h) (Or.inl ⟨by rfl,?_⟩) (by assumption) ?_
 rotate_left
 ·(intro w j;(try dsimp only at j);go_simp;(try with_reducible rfl))
 try simp only[Act.put,Ja,Je,Jf]
 refine tk 4 9 (v:=undef) rfl rfl (by kernel_rfl) (fun _ _ _ h=>h) (Or.inr ⟨by rfl,rfl⟩) (by assumption) ?_
 try simp only[Act.put,Ja,Je,Jf]
 refine tk 5 10 (v:=undef) rfl rfl (by kernel_rfl) (fun _ _ _ h=>h) (Or.inr ⟨by rfl,rfl⟩) (by assumption) ?_
 try simp only[Act.put,Ja,Je,Jf]
 refine tk 6 11 (v:=?_) rfl rfl (by kernel_rfl) (fun _ _ _ h=>h) (Or.inl ⟨by rfl,?_⟩) (by assumption) ?_
 rotate_left
 ·(intro w j;(try dsimp only at j);go_simp;(try with_reducible rfl))
 try simp only[Act.put,Ja,Je,Jf]
 refine tk 7 12 (v:=?_) rfl rfl (by kernel_rfl) (fun _ _ _ h=>h) (Or.inl ⟨by rfl,?_⟩) (by assumption) ?_
 rotate_left
 ·(intro w j;(try dsimp only at j);go_simp;(try with_reducible rfl))
 try simp only[Act.put,Ja,Je,Jf]
 refine tk 8 13 (v:=undef) rfl rfl (by kernel_rfl) (fun _ _ _ h=>h) (Or.inr ⟨by rfl,rfl⟩) (by assumption) ?_
 try simp only[Act.put,Ja,Je,Jf]
 refine tk 9 14 (v:=undef) rfl rfl (by kernel_rfl) (fun _ _ _ h=>h) (Or.inr ⟨by rfl,rfl⟩) (by assumption) ?_
 try simp only[Act.put,Ja,Je,Jf]
 refine tk 10 15 (v:=undef) rfl rfl (by kernel_rfl) (fun _ _ _ h=>h) (Or.inr ⟨by rfl,rfl⟩) (by assumption) ?_
 try simp only[Act.put,Ja,Je,Jf]
 refine tk 11 16 (v:=undef) rfl rfl (by kernel_rfl) (fun _ _ _ h=>h) (Or.inr ⟨by rfl,rfl⟩) (by assumption) ?_
 try simp only[Act.put,Ja,Je,Jf]
 refine tk 12 17 (v:=undef) rfl rfl (by kernel_rfl) (fun _ _ _ h=>h) (Or.inr ⟨by rfl,rfl⟩) (by assumption) ?_
 try simp only[Act.put,Ja,Je,Jf]
 refine tk 13 18 (v:=?_) rfl rfl (by kernel_rfl) (fun _ _ _ h=>h) (Or.inl ⟨by rfl,?_⟩) (by assumption) ?_
 rotate_left
 ·(intro w j;(try dsimp only at j);go_simp;(try with_reducible rfl))
 try simp only[Act.put,Ja,Je,Jf]
 refine tk 14 4 (v:=?_) rfl rfl (by kernel_rfl) (fun _ _ _ h=>h) (Or.inl ⟨by rfl,?_⟩) (by assumption) ?_
 rotate_left
 ·(intro w j;(try dsimp only at j);go_simp;(try with_reducible rfl))
 try simp only[Act.put,Ja,Je,Jf]
 refine wpAnyH_done (by kernel_rfl) ?_ _
 go_wp2
 go_ret
 exact⟨Nd.no HN.o,O.o.drew⟩
theorem Lk{Fs:List (Int×Bool)}(h:BankAt w vs vf vt S F T)(hz:BankZ S F T)(hns:G4 T)(hvs:Ac vs S.length)(hk:FactsAt w vk Fs) :
 Calls prog 7 #[.agg #[vs,vf,vt],vk] w (LX S F T Fs w):=by
 obtain⟨W0,G⟩:=O2 (w.alloc (.cells #[vs,vf,vt] 27));have O:Up w W0:=by rw[<-G];exact Oy _ _
 have V:Bx W0 w.heap.size [vs,vf,vt]:=by rw[<-G];exact Oq w _ _
 have b7:=Hd G;have Y:=Hd O;have a8:=Hd V;have Z:=Hd h;have a1:=Hd hk;have HZ:=Hd hz;have HG:=Hd (D7 (h.bl O) hz hns hvs);obtain⟨c0,c1,c2⟩:=V.c3;obtain⟨ps,cs,rfl,-,-,-⟩:=h.s;obtain⟨pf,cf,rfl,-,-,-⟩:=h.f;obtain⟨pt,ct,rfl,-,-,-⟩:=h.t;obtain⟨pk,ck,rfl,-,-,-⟩:=hk;clear h hz hvs hns G O V
 go_in
 go_upto_region 1 with fail
 rw[b7.o]
 go_wp2_with fail
 refine HG.o.mono ?_;rintro e w1 ⟨rfl,R⟩;have q:=Hd (Y.o.trans (R.mono Y.o.size));have K:=Hd (a8.o.bl a8.o.lt R);obtain⟨d0,d1,d2⟩:=K.o.c3;clear c0 c1 c2 R HG
 cases J:Ek S Ep F T with
 | false=>
   have HR:Hid (¬ F9 S F T Fs):=fun h=>by rw[h.1]at J;cases J
   clear J
   go_wp2
   go_ret
   exact⟨.inl ⟨HR.o,rfl⟩,q.o⟩
 | true=>
   obtain⟨hn,hT,hE⟩:=Rz J HZ.o;have HF:=Hd (Bt (Z.o.bl q.o) (a1.o.bl q.o) hn);have b4:=Hd J;have b6:=Hd hT;have b2:=Hd hE;clear J hT hE
   go_wp2_with fail
   refine HF.o.mono ?_;rintro e w2 ⟨⟨bb,rfl,E⟩,hb2⟩;have j:=Hd (q.o.trans (hb2.mono q.o.size));have b8:=Hd (K.o.bl K.o.lt hb2);clear d0 d1 d2 hb2 HF;obtain⟨d0,d1,d2⟩:=b8.o.c3
   cases bb with
   | false=>
     have HR:Hid (¬ F9 S F T Fs):=fun h=>by have:=E.2 h.2;cases this
     clear E
     go_wp2
     go_ret
     exact⟨.inl ⟨HR.o,rfl⟩,j.o⟩
   | true=>
     have HR:Hid (F9 S F T Fs):=⟨b4.o,E.1 rfl⟩;have HC:=Hd (Cx w2 (Z.o.bl j.o) (a1.o.bl j.o) hn b6.o b2.o (E.1 rfl));clear E
     go_wp2_with fail
     refine HC.o.mono ?_;rintro e w3 ⟨g,L,rfl,J,hx,hl,b0⟩;have b3:Hid (w.heap.size<=g):=Jm j.o.size J;have b9:=Hd hx;have b5:=Hd hl;have b1:=Hd (j.o.trans (b0.mono j.o.size));clear J hx hl b0
     go_wp2
     go_ret
     exact⟨.inr ⟨HR.o,g,L,rfl,b3.o,b9.o,b5.o⟩,b1.o⟩
theorem Qn{Fs:List (Int×Bool)}(h:BankAt w vs vf vt S F T)(hz:BankZ S F T)(hns:G4 T)(hv:Vars w)(hk:FactsAt w vk Fs) :
 Calls prog 5 #[.agg #[vs,vf,vt],vk] w (LX S F T Fs w):=by
 obtain⟨W0,b8⟩:=O2 (w.alloc (.cells #[vs,vf,vt] 27));have b2:Up w W0:=by rw[<-b8];exact Oy _ _
 have V:Bx W0 w.heap.size [vs,vf,vt]:=by rw[<-b8];exact Oq w _ _
 have n0:=Hd b8;have g1:=Hd b2;have i6:=Hd V;have l0:=Hd h;have l6:=Hd hk;have HZ:=Hd hz;have g0:=Hd (OZ (h.bl b2) hz hns (hv.bl b2) (hk.bl b2));obtain⟨i0,k0,n7,n8,n9⟩:=info_parts Iu;obtain⟨ps,cs,rfl,-,-,-⟩:=h.s;obtain⟨pf,cf,rfl,-,-,-⟩:=h.f;obtain⟨pt,ct,rfl,-,-,-⟩:=h.t;obtain⟨pk,ck,rfl,q9,r3,-⟩:=hk;obtain⟨c0,c1,c2⟩:=V.c3;clear h hz hv hns b8 b2 V
 go_in
 go_upto_region 1 with fail
 rw[n0.o]
 go_wp2_with fail
 refine g0.o.mono ?_;rintro e w1 ⟨⟨bb,rfl,b9⟩,Z⟩;have b6:=Hd (g1.o.trans (Z.mono g1.o.size));have b7:=Hd (i6.o.bl i6.o.lt Z);clear c0 c1 c2 Z g0;obtain⟨d0,d1,d2⟩:=b7.o.c3
 cases bb with
 | false=>
   have HR:Hid (¬ F9 S F T Fs):=fun h=>by have:=b9.2 h;cases this
   clear b9
   go_wp2
   go_ret
   exact⟨.inl ⟨HR.o,rfl⟩,b6.o⟩
 | true=>
   have e3:=b9.1 rfl;have Y:=Hd e3;obtain⟨hn,hT,hE⟩:=Rz e3.1 HZ.o;have e1:=Hd hT;have g7:=Hd hE;have h8:=Hd (l0.o.t.bl b6.o);have h2:=Hd (NR h8.o hn (fun i hi=>by
    have e:tmAt T (i:Nat)=T[i]:=by unfold tmAt;rw[Y7,Jg hi];rfl
    obtain⟨z1,z2,-,z4,z5,z6⟩:=HZ.o.t _ (Jj hi);rw[e];exact⟨z4,z5,z6,z1,z2,by simp[R3],fun x hx=>absurd hx (by simp[R3])⟩))
   clear b9 e3 hT hE
   go_wp2_with fail
   refine h2.o.mono ?_;rintro e w2 ⟨A2,eb,hb,ub,mb,sb,gm,H,ms,Hs,rfl,hA,G⟩;obtain⟨x0,V⟩:∃x,VS T (.slice pt T.length ct) hb ub mb sb ms A2=x:=⟨_,rfl⟩;have j5:=G.hdOk hn;have hU:=Mo Y.o.1;have h1:=Hd (G.hp hA h8.o hn e1.o);rw[V]at h1;have k9:=Hd (b6.o.trans (G.low.mono b6.o.size));have j0:=Hd (b7.o.bl b7.o.lt G.low);have g2:Hid (w.heap.size<w1.heap.size):=b7.o.lt;have g4:Hid (w1.heap.size<=w2.heap.size):=G.low.size;have h9:=Hd hU;have h0:=Hd j5;have l3:Hid (EnS T H x0 x0 0):=by unfold Hid;rw[<-V];exact EnS.zero
   have l5:Hid (It mb x0.s []):=by unfold Hid;rw[<-V];exact⟨[],rfl,rfl,rfl⟩
   have l4:Hid (Fo x0.ms (List.range T.length) (fun _=>0)):=by
    unfold Hid;rw[<-V];refine⟨by show _=ms.length;rw[G.ml];simp,fun i hi=>.inl ?_⟩;have b3:i<T.length:=by rw[<-G.ml];exact hi
    exact⟨by have:=(G.me i b3).1;rw[E7 (by rw[G.ml];exact b3)]at this;exact this,Ua b3⟩
   have l8:Hid (∀x,EnS T H x0 x T.length->Stat T H x.U/\Lg T H (G5 T Fs) x (List.range T.length) (fun _=>0) [] (fun _ _=>False) 0/\Cn T.length x (List.range T.length) FC 6000):=fun x hx=>by
    rw[<-V]at hx;exact hx.lg G.ml (fun i hi=>⟨(G.me i hi).1,(G.me i hi).2.1⟩) h0.o e1.o h9.o hn
   have h4:Hid (x0.s.t0=Kf T 2/\x0.s.t1=Kf T 1):=by
    unfold Hid;rw[<-V];exact⟨Wq Y.o.1 (.inr rfl),Wq Y.o.1 (.inl rfl)⟩
   clear hA G V j5 hU h2 d0 d1 d2;obtain⟨d0,d1,d2⟩:=j0.o.c3
   go_wp2
   go_loopw [6,21] (fun _ iv wr=>∃(k:Nat) (x:Sx),k<=T.length/\iv=.int .i64 (k:Nat)/\Hp wr w1.heap.size eb mb hb ub T H x/\It mb x.s []/\EnS T H x0 x k/\Ch w1.heap.size NoX (some 31::Ug) w2 wr) (fun _ iv _=>T.length - (intOf iv).toNat)
   case atStart=>exact⟨0,x0,Jp _,rfl,h1.o,l5.o,l3.o,Ch.refl _ _ _ _⟩
   rename World=>wr
   obtain⟨k,x,hk,rfl,c6,c8,J,hc⟩:=hrel;have HC:=Hd hc
   by_cases b4:k<T.length
   ·have z1:decide ((k:Int)<(T.length:Int))=true:=Jb (by omega);have z2:decide (k<T.length)=true:=Jb b4;have g5:=Hd (EO (D:=fun _=>0) k c6 (by rw[J.em];exact l4.o) b4 (fun key u e=>by have:=(J.sgE key u e).1;omega) c8 (by have:=J.nI;have:=J.nS;have:=J.nN;omega) (fun j _=>by have:=J.ulen j;omega));have g8:=Hd J;clear c6 c8 J hc d0 d1 d2
    go_wp2_with fail
    refine g5.o.mono ?_;rintro e w3 ⟨rfl,j8⟩;obtain⟨x',a1,a2,a3,a4⟩:=g8.o.next h0.o e1.o h9.o hn b4 j8;have HR:Hid (∃(x:Sx),Hp w3 w1.heap.size eb mb hb ub T H x/\It mb x.s []/\EnS T H x0 x (k+1)/\Ch w1.heap.size NoX (some 31::Ug) w2 w3):=⟨x',a1,a2,a3,HC.o.trans a4⟩;clear j8 a1 a2 a3 a4 g5 g8
    go_wp2
    go_roundw
    case rel=>
     obtain⟨x',a1,a2,a3,a4⟩:=HR.o;exact⟨k+1,x',b4,by go_num,a1,a2,a3,a4⟩
    simp[intOf];omega
   have z1:decide ((k:Int)<(T.length:Int))=false:=Jd (by omega);have z2:decide (k<T.length)=false:=Jd b4;have d3:k=T.length:=by omega
   subst d3;obtain⟨hS,hL,j4⟩:=l8.o x J;have HS:=Hd hS;have h7:Hid (x.s.t0=Kf T 2/\x.s.t1=Kf T 1):=⟨J.t0.trans h4.o.1,J.t1.trans h4.o.2⟩;have k8:Hid (AdS w1.heap.size eb mb hb ub T H Fs x 0 x (List.range T.length) (fun _=>0) wr):=⟨c6,hL.imp (fun u v ⟨j,_,h,_⟩=>absurd h (Jz _)),c8,j4,J.nI,rfl,rfl,rfl⟩;clear c6 c8 J hc hS hL j4 d0 d1 d2
   go_wp2
   go_loopw [8,30] (fun _ iv wq=>∃(j:Nat) (y:Sx) (R:List Nat) (D:Nat->Nat),j<=Fs.length/\iv=.int .i64 (j:Nat)/\AdS w1.heap.size eb mb hb ub T H Fs x j y R D wq/\Ch w1.heap.size NoX (some 31::Ug) w2 wq) (fun _ iv _=>Fs.length - (intOf iv).toNat)
   case atStart=>exact⟨0,x,_,_,Jp _,rfl,k8.o,HC.o⟩
   rename World=>wq
   obtain⟨j,y,R,D,hj,rfl,E,hc⟩:=hrel;have o5:Fs.length<=300:=Y.o.2.1;have f9:=Hd E;have p8:=Hd hc;have d7:Hid (Up w wq):=k9.o.trans ((hc.bl g4.o).mono (Zj g2.o))
   by_cases K:j<Fs.length
   ·have z1:decide ((j:Int)<(Fs.length:Int))=true:=Jb (by omega);have z2:decide (j<Fs.length)=true:=Jb K;have i1:(j:Int)<(Fs.length:Int):=by omega
    obtain⟨bk,rfl,q6,q0,q1⟩:∃bk,pk=some ⟨bk,0,none⟩/\bk<wq.heap.size/\wq.cell? ⟨bk,j*2,none⟩=some (.int .i64 Fs[j].1)/\wq.cell? ⟨bk,j*2+1,none⟩=some (.bool Fs[j].2):=by
     obtain⟨p',c',e,-,-,h3⟩:=l6.o.bl d7.o;simp only[Value.slice.injEq,true_and]at e;obtain⟨rfl,rfl⟩:=e
     rcases h3 with h3|⟨b',e,hl,h5⟩
     ·rw[h3]at K;exact absurd K (Jz _)
     exact⟨b',e,hl,h5 j K⟩
    obtain⟨W1,b1⟩:=O2 (wq.alloc (.cells #[.int .i64 Fs[j].1,.bool Fs[j].2] 36));have Z:Up wq W1:=by rw[<-b1];exact Oy _ _
    have d4:Bx W1 wq.heap.size [.int .i64 Fs[j].1,.bool Fs[j].2]:=by rw[<-b1];exact Oq wq _ _
    have a8:Hid (Calls prog 13 #[.pointer (some ⟨eb,0,none⟩),.agg #[.int .i64 Fs[j].1,.bool Fs[j].2]] W1 fun e w'=>e=.returned (.tuple #[])/\(∃x' R' D',AdS w1.heap.size eb mb hb ub T H Fs x (j+1) x' R' D' w')/\Ch w1.heap.size NoX Ug W1 w'):=
     AdS.add (Fs:=Fs) (x0:=x) ⟨E.hp.up (Ch.up _ _ _ Z),E.lg,E.it,E.cn,E.nI,E.eU,E.t0,E.t1⟩ HS.o g7.o h7.o.1 h7.o.2 Y.o.2 K
    have l2:Hid (Ch w1.heap.size NoX (some 31::Ug) w2 W1):=hc.trans (Ch.up _ _ _ Z);generalize Fs[j]=f at *;obtain⟨ft,fo⟩:=f;simp only at q0 q1 b1 d4 a8;have y0:=d4.c2.1;have y1:=d4.c2.2;have n1:=Hd b1;clear E hc Z d4 b1 f9
    go_upto_region 12 with fail
    rw[n1.o]
    go_wp2_with fail
    refine a8.o.mono ?_;rintro e w3 ⟨rfl,j9,j7⟩;have HR:Hid ((∃x' R' D',AdS w1.heap.size eb mb hb ub T H Fs x (j+1) x' R' D' w3)/\Ch w1.heap.size NoX (some 31::Ug) w2 w3):=⟨j9,l2.o.trans (j7.wide (by decide))⟩;clear j9 j7 a8 y0 y1 q0 q1
    go_wp2
    go_roundw
    case rel=>
     obtain⟨⟨x',R',D',a1⟩,a2⟩:=HR.o;exact⟨j+1,x',R',D',K,by go_num,a1,a2⟩
    simp[intOf];omega
   have z1:decide ((j:Int)<(Fs.length:Int))=false:=Jd (by omega);have z2:decide (j<Fs.length)=false:=Jd K;have n6:j=Fs.length:=by omega
   subst n6;obtain⟨LL,e2⟩:∃L,(List.range T.length).map (fun i=>(meA y.ms (labA R i)).least)=L:=⟨_,rfl⟩;have l7:Hid (Eg T (madeL T T.length) (G5 T Fs) LL):=by unfold Hid;rw[<-e2];exact E.least HS.o g7.o Y.o.2
   have d8:Hid (LL.length=T.length/\∀i (h:i<LL.length),LL[i]=(meA y.ms (labA R i)).least):=by
    unfold Hid;subst e2;exact⟨by simp,fun i hi=>by simp⟩
   have j1:Hid (Bx wq w.heap.size [.slice ps S.length cs,.slice pf F.length cf,.slice pt T.length ct]):=j0.o.bl g2.o (hc.bl g4.o);obtain⟨X,hX⟩:=O2 (labV LL);have i7:=Hd hX;have j6:X.length=T.length:=by rw[<-hX,Te];exact d8.o.1
   have b0:=Hd j6;have n2:Hid (∀i (h:i<T.length),X[i]'(by rw[b0.o];exact h)=.int .i64 ((meA y.ms (labA R i)).least:Nat)):=fun i hi=>by
    subst hX;have b3:i<LL.length:=by rw[d8.o.1];exact hi
    have:=d8.o.2 i b3;simp[labV,this]
   clear e2 hc hX j6 f9;obtain⟨d0,d1,d2⟩:=j1.o.c3
   go_wp2_with (at_make;refine wpList_make_full _ rfl _ _ 31 rfl wq.heap.size 3 i0 (.int .i64 0) 1 underlying31 k0 n7 n8 .i64 .i64 _ _ T.length rfl rfl (by simp) (by simp) (by rw[n9];omega) (by unfold maxLen;omega) leR ?_)
   intro wm d6 a7;have j3:Up wq wm:=⟨a7.os,a7.tape,a7.output,a7.size,fun k hk=>a7.block k hk (fun e=>by cases e)⟩;have i8:Hid (Bx wm wq.heap.size (UX X 0)):=by
    have e:(madeCells #[Value.int .i64 0] T.length).toList=UX X 0:=by
     rw[toList_madeCells_one];simp[UX,b0.o]
    unfold Hid;rw[<-e];exact B9 d6
   have g9:Hid (Fo y.ms R D):=E.lg.fo;have m0:Hid (MemsAt wq mb y.ms):=E.hp.sta.mem;have m5:Hid (y.ms.length=T.length):=E.hp.sta.ml;have g6:Hid (eb<wq.heap.size/\wq.cell? ⟨eb,5,none⟩=some (.slice (some ⟨mb,0,none⟩) T.length T.length)):=⟨E.hp.dyn.box.bx.lt,by
    have e:=E.hp.dyn.box.bx.cell 5;rw[e]
    show some y.s.vM=_
    rw[E.hp.sta.vM]⟩
   have l1:=Hd j3;have l9:Hid (w.heap.size<=wq.heap.size):=d7.o.size;clear d6 a7 j3 E d0 d1 d2 j1
   go_wp2
   go_loopw [10,44] (fun _ iv wr=>∃k:Nat,k<=T.length/\iv=.int .i64 (k:Nat)/\Bx wr wq.heap.size (UX X k)/\Up wq wr) (fun _ iv _=>T.length - (intOf iv).toNat)
   case atStart=>exact⟨0,Jp _,rfl,i8.o,l1.o⟩
   rename World=>wr
   obtain⟨k,hk,rfl,hx,hb⟩:=hrel;have HX:=Hd hx;have HB:=Hd hb
   by_cases O:k<T.length
   ·have z1:decide ((k:Int)<(T.length:Int))=true:=Jb (by omega);have z2:decide (k<T.length)=true:=Jb O;have i1:(k:Int)<(T.length:Int):=by omega
    have hm:=m0.o.ch (Ch.up 0 NoX [] hb) (by decide);have e4:k<y.ms.length:=by rw[m5.o];exact O
    obtain⟨q,hq⟩:=O2 (labA R k);have e6:q<y.ms.length:=by rw[<-hq];exact g9.o.lt k e4
    have e5:=(hb.cell (p:=⟨eb,5,none⟩) g6.o.1).trans g6.o.2;have e0:=Hd (Hj wr hm g9.o k e4);rw[hq]at e0;unfold mp at e0;obtain⟨-,-,-,-,-,c5,-,-⟩:=hm.cells e6;have HV:=n2.o k O;rw[hq,E7 e6]at HV;have m6:Hid ((UX X k).set k (.int .i64 ((y.ms[q]).least:Nat))=UX X (k+1)):=by unfold Hid;rw[<-HV];exact QE (by rw[b0.o];exact O)
    have n5:=hx.cell k;have q7:=hx.fz k;have k1:(UX X k)[k]? = some (.int .i64 0):=by
     have q8:k<X.length:=by rw[b0.o];exact O
     unfold UX;rw[List.getElem?_append_right (by simp;omega),List.getElem?_replicate,if_pos (by simp;omega)]
    rw[k1]at n5;generalize (y.ms[q]).least=le at *;have m8:Hid (Bx (wr.setCell ⟨wq.heap.size,k,none⟩ (.int .i64 (le:Nat))) wq.heap.size (UX X (k+1))):=by unfold Hid;rw[<-m6.o];exact hx.set k _
    have g3:Hid (Up wq (wr.setCell ⟨wq.heap.size,k,none⟩ (.int .i64 (le:Nat)))):=hb.sc;clear hm hx hb k1 HV hq e6 e4
    go_wp2_with fail
    refine e0.o.mono ?_;rintro e w4 ⟨rfl,rfl⟩
    go_wp2
    go_roundw
    case rel=>exact⟨k+1,O,by go_num,m8.o,g3.o⟩
    simp[intOf];omega
   have z1:decide ((k:Int)<(T.length:Int))=false:=Jd (by omega);have z2:decide (k<T.length)=false:=Jd O;have d3:k=T.length:=by omega
   have HR:Hid (Bx wr wq.heap.size (labV LL)):=by
    unfold Hid;rw[i7.o,<-DF X,b0.o,<-d3];exact hx
   have m7:=d7.up hb;clear hx hb d3 HX HB
   go_wp2
   go_ret
   exact⟨.inr ⟨Y.o,wq.heap.size,LL,rfl,l9.o,HR.o,l7.o⟩,m7.o⟩
end Go.Proofs.YtfkagjelljnpdaaGreatDoor
