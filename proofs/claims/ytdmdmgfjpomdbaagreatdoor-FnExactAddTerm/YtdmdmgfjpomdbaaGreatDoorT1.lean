import Derived.Test.YtdmdmgfjpomdbaaGreatDoorP00
import Derived.Test.YtdmdmgfjpomdbaaGreatDoorP39
import Derived.Test.YtdmdmgfjpomdbaaGreatDoorP35
set_option linter.all false
set_option maxRecDepth 100000
set_option maxHeartbeats 8000000
namespace Go.Proofs.YtdmdmgfjpomdbaaGreatDoor
open ChangeShapes WideShapes ChangeAt RowKit
theorem Ag (w:World)(base:Nat):BankN w base (.slice none 0 0) (.slice none 0 0) (.slice none 0 0) [] [] []:=
 ⟨⟨rfl,.inl ⟨rfl,rfl⟩⟩,⟨[],rfl,⟨rfl,.inl ⟨rfl,rfl⟩⟩,(fun x hx=>by cases hx),List.Pairwise.nil⟩,⟨[],rfl,⟨rfl,.inl ⟨rfl,rfl⟩⟩,(fun x hx=>by cases hx),List.Pairwise.nil⟩⟩
theorem Book.asked {w0:World}{kb sb fb tb gb n n' nS nF nT:Nat}{S:List (List UInt8)}{F:List Fn}{T:List Tm}{vS vF vT:Value}{bF:Nat}{W W':World}(h:Book w0 kb sb fb tb gb n nS nF nT S F T vS vF vT bF W)(hb:Bar gb W W'){g:List UInt8->Option SI}(hk:KM W' gb n' g)(ho:ZM (Oq S) g):Book w0 kb sb fb tb gb n' nS nF nT S F T vS vF vT bF W':=by
 obtain⟨I,j,-⟩:=h.km;have A:=h.low.size;have G:=h.ids;have d:∀ (k:Nat) cs ty fz,W.heap[k]? = some (.cells cs ty fz)->W'.heap[k]? = W.heap[k]? := fun k cs ty fz hc=>hb.block k (Jv.1 hc).1 (fun e=>j.no_cells (e ▸ hc));refine⟨⟨hb.os.trans h.low.os,hb.tape.trans h.low.tape,hb.output.trans h.low.output,Yc A hb.size,fun k hk=>(hb.block k (by omega) (by omega)).trans (h.low.block k hk)⟩,h.ids,h.ne,?_,own_other' h.sr (fun g hg=>?_),h.fr.keep (fun g c z hg _=>?_),h.tr.keep (fun g c z hg _=>?_),⟨h.far.1,Yc h.far.2.1 hb.size,h.far.2.2⟩,h.sm.at_heap (hb.block sb h.sm.lt h.ne.2.2.1),h.fm.at_heap (hb.block fb h.fm.lt h.ne.2.2.2.2.1),h.tm.at_heap (hb.block tb h.tm.lt h.ne.2.2.2.2.2),g,hk,ho⟩
 ·obtain⟨ty,E⟩:=h.box;exact⟨ty,(d _ _ _ _ E).trans E⟩
 ·obtain⟨c,z,hc⟩:=Kp h.sr g hg;exact d g c _ z hc
 ·rcases hg with hg|hg<;>exact d g c _ z hg
 rcases hg with hg|hg<;>exact d g c _ z hg
theorem PN {S:List (List UInt8)}{num:Tm->Bool}{F:List Fn}{T:List Tm}(h:Gn S num F T=true):S.length+F.length<=300:=by
 unfold Gn Gk at h;simp only[J3,Yi] at h;exact h.1.2.1.1
end Go.Proofs.YtdmdmgfjpomdbaaGreatDoor
namespace Go.Proofs.YtdmdmgfjpomdbaaGreatDoor
open ChangeShapes WideShapes ChangeAt RowKit Proofs.Tryz
variable {F:List Fn}{S:List (List UInt8)}{T:List Tm}{t:Tm}
theorem numB_kind (own:List UInt8->Bool)(t:Tm)(h:Gt t=true):(Ov own t.sort).kind=2∨(Ov own t.sort).kind=3:=by
 rcases XE h with h|h
 ·exact .inl (((KG own).i _).2 h)
 exact .inr (((KG own).r _).2 h)
theorem TE (hg:Hf S Gt F T=true)(t:Tm):Hy (Ov (Oc (Oq S))) Gt F (Od F) T t=U6 S Gt F T T.length t:=by
 unfold Hf at hg;simp only[J3] at hg;obtain⟨⟨⟨⟨-,-⟩,h3⟩,h4⟩,h5⟩:=hg;have h:∀ u∈T,(Ov (Oc (Oq S)) u.sort).kind≠0:=by
  intro u A;obtain⟨j,d,rfl⟩:=J6 A;have:=Jt.1 h5 j (Y5.2 d);unfold addP at this;rw[Jd d] at this;simp only[J3] at this;exact ER this.1
 rw[AK (KG _) h (fun f hf=>VS (Jt.1 h4 f hf)) rfl (numB_kind _),DV leR,Yk,YD (VM h3)]
theorem TG {j:Nat}(h:Xt T t=some j):G9 T t=(j:Int):=by
 unfold Xt at h;unfold G9;rw[h]
theorem TN (h:Xt T t=none):G9 T t = -1:=by
 unfold Xt at h;unfold G9;rw[h]
def SM (S:List (List UInt8))(F:List Fn)(T:List Tm)(t:Tm):Int:=if Gn S Gt F T=false then 1 else if U6 S Gt F T T.length t=false then 5 else if 0<=G9 T t then 0 else if 3000<=T.length then 4 else 0
def SW (S:List (List UInt8))(F:List Fn)(T:List Tm)(t:Tm):Int:=if SM S F T t=0 then (if 0<=G9 T t then G9 T t else (T.length:Int)) else 0
def SB (S:List (List UInt8))(F:List Fn)(T:List Tm)(t:Tm):List Tm:=if SM S F T t=1 then [] else if SM S F T t=0/\G9 T t<0 then T++[t] else T
def ST (S:List (List UInt8))(F:List Fn)(T:List Tm)(t:Tm):List (List UInt8):=if SM S F T t=1 then [] else S
def SA (S:List (List UInt8))(F:List Fn)(T:List Tm)(t:Tm):List Fn:=if SM S F T t=1 then [] else F
theorem TY {w0:World}{kb sb fb tb gb n:Nat}{vS vF vT vk:Value}{bF:Nat}{W:World}(h:Book w0 kb sb fb tb gb n S.length F.length T.length S F T vS vF vT bF W)(hn:n<=200000)(hg:Hf S Gt F T=true)(hv:Vars w0)(hz:BankZ S F T)(hk:Kg W vk t.kids)(ht:F1 t)(hw:BD [t]) :
 Calls prog 52 #[.pointer (some ⟨kb,0,none⟩),Xz t vk] W fun e w'=>e=.returned (.tuple #[.int .i64 (SW S F T t),.int .i64 (SM S F T t)])/\∃ vT' n' nT,Book w0 kb sb fb tb gb n' S.length F.length nT S F (SB S F T t) vS vF vT' bF w':=by
 have b4:Gn S Gt F T=true:=by rw[<-Li];exact hg
 have c8:=PN b4;have b7:T.length<=3000:=by
  unfold Hf at hg;simp only[J3,Yi] at hg;exact hg.1.1.1.1
 have b8:=h.ids;obtain⟨g,M⟩:=h.bk (by omega) (by omega) hv.ev hv.rt;have O:¬ Gn S Gt F T=false:=by rw[b4];decide
 have G:t.op=12->((Ov (Oc (Oq S)) t.sort).kind=2∨(Ov (Oc (Oq S)) t.sort).kind=3)->∀ W',Bar gb W W'->Calls prog 110 #[.string (Oo t.sort),.string (Oo t.text)] W' fun e w'=>e=.returned (.bool (Gt t))/\Below W'.heap.size W' w':=fun _ hk W' hb=>by
  have U:=hv.bl (h.low.trans (hb.bl (N:=w0.heap.size) b8.2.2.2.2 h.low.size));obtain⟨m,hm⟩:=U.ml;refine B4 t m W' ?_ ht.2.1 hm U.sp U.ns U.lt
  rcases hk with hk|hk
  ·exact .inl (((KG _).i _).1 hk)
  exact .inr (((KG _).r _).1 hk)
 have V:∀ u∈T,u.sort.length<=1048576:=fun u hu=>(hz.t u hu).1;have K:=TE hg t;have a8:=hw t (Zv.2 rfl);have E:∀ w',O8 W w' kb sb fb gb n S F T vS vF vT (.map (some tb)) 60->¬ (SM S F T t=1)->¬ (SM S F T t=0/\G9 T t<0)->∃ vT' n' nT,Book w0 kb sb fb tb gb n' S.length F.length nT S F (SB S F T t) vS vF vT' bF w':=fun w' ha h1 h2=>by
  obtain⟨n',g',-,b6,Y⟩:=ha;refine⟨vT,n',T.length,?_⟩;unfold SB;rw[if_neg h1,if_neg h2];exact h.asked Y b6.km b6.ok
 cases A:U6 S Gt F T T.length t with
 | false=>
   have d:SM S F T t=5:=by unfold SM;rw[if_neg O,if_pos A]
   refine (T9 M t vk hk Gt (by omega) ht.2.2 (by omega) V ht.1 ht.2.1 (by omega) G (K.trans A)).mono ?_;rintro e w' ⟨rfl,ha⟩;exact⟨by unfold SW;rw[d];rfl,E w' ha (by rw[d];decide) (by rw[d];rintro⟨h,-⟩;cases h)⟩
 | true=>
   have J:¬ U6 S Gt F T T.length t=false:=by rw[A];decide
   have a7:WfT t:=CG (K.trans A) b7 a8.1 a8.2.1 a8.2.2 ht.1 ht.2.1
   cases hj:Xt T t with
   | some j=>
     have hs:=TG hj;have d:SM S F T t=0:=by unfold SM;rw[if_neg O,if_neg J,if_pos (by rw[hs];omega)]
     refine (Ba M h.tm h.ne.2.2.2.2.2 t vk hk Gt (by omega) (by omega) V (by omega) a7 G (K.trans A) j 0 (.inl ⟨j,hj,rfl,rfl⟩)).mono ?_;rintro e w' ⟨rfl,ha⟩;exact⟨by unfold SW;rw[if_pos d,if_pos (by rw[hs];omega),hs,d],E w' ha (by rw[d];decide) (by rw[hs];rintro⟨-,h⟩;omega)⟩
   | none=>
     have hs:=TN hj;have Z:¬ 0<=G9 T t:=by rw[hs];decide
     by_cases I:3000<=T.length
     ·have d:SM S F T t=4:=by unfold SM;rw[if_neg O,if_neg J,if_neg Z,if_pos I]
      obtain⟨pT,cT,e',-⟩:=h.tr.at;refine (Ba M h.tm h.ne.2.2.2.2.2 t vk hk Gt (by omega) (by omega) V (by omega) a7 G (K.trans A) 0 4 (.inr ⟨hj,I,⟨pT,cT,e'⟩,rfl,rfl⟩)).mono ?_;rintro e w' ⟨rfl,ha⟩;exact⟨by unfold SW;rw[d];rfl,E w' ha (by rw[d];decide) (by rw[d];rintro⟨h,-⟩;cases h)⟩
     have d:SM S F T t=0:=by unfold SM;rw[if_neg O,if_neg J,if_neg Z,if_neg I]
     obtain⟨X,hX,hr,hA⟩:=h.tr;have c6:=h.far;have d4:=h.box.lt;refine (Wo M h.tm (by omega) h.ne.2.2.2.2.2 (kb+1) (X.flatMap Ho) hr (fun e=>by have:=Ol hr _ e;omega) (by omega) t vk hk Gt (by omega) (by omega) V (by omega) a7 G (K.trans A) hj).mono ?_;rintro e w' ⟨rfl,ha⟩;obtain⟨vT',n',-,Y⟩:=h.addT hX hr hA ha;refine⟨by unfold SW;rw[if_pos d,if_neg Z,d],vT',n',T.length+1,?_⟩;unfold SB;rw[if_neg (by rw[d];decide),if_pos ⟨d,by omega⟩];exact Y
theorem TO {w:World}{g:Nat}{a b c d e f:Value}(h:Bx w g [a,b,c,d,e,f]):w.cell? ⟨g,0,none⟩=some a/\w.cell? ⟨g,1,none⟩=some b/\w.cell? ⟨g,2,none⟩=some c/\w.cell? ⟨g,3,none⟩=some d/\w.cell? ⟨g,4,none⟩=some e/\w.cell? ⟨g,5,none⟩=some f:=⟨h.cell 0,h.cell 1,h.cell 2,h.cell 3,h.cell 4,h.cell 5⟩
theorem BankN.addT {base:Nat}{us uf ut va v1:Value}{W W':World}{o:Obj}{X:List (Tm×Value)}(h:BankN W base us uf ut S F T)
 (hX:X.map Prod.fst=T) (hr:W.ownsRow base 55 6 ut T.length (X.flatMap Ho)) (hA:(∀ x∈X,W.ownsRow base 3 1 x.2 x.1.kids.length (Nx x.1.kids))/\X.Pairwise Nq)
 (hva:W.ownsRow base 3 1 va t.kids.length (Nx t.kids)) (hvn:∀ x∈X,Nq x (t,va))
 (hg:(W.alloc o).grownBy W' ut.ownBlock) (hr1:W'.ownsRow base 55 6 v1 (T.length+1) (X.flatMap Ho++Ho (t,va))):BankN W' base us uf v1 S F (T++[t]):=by
 have hk:∀ k,k<W.heap.size->ut.ownBlock≠some k->W'.heap[k]? = W.heap[k]? := fun k hk h1=>by
  rw[hg.block k (by simp;omega) (fun e=>h1 e.symm)];exact Below.block (Oz W o) k hk
 have j:∀ (k:Nat) cs ty fz,W.heap[k]? = some (.cells cs ty fz)->ty≠55->W'.heap[k]? = W.heap[k]? := fun k cs ty fz hc ht=>hk k (Jv.1 hc).1 (I3 hr hc (Ne.symm ht));have d:∀ {v:Value} {n:Nat} {xs:List Value} {e:TypeId},W.ownsRow base e 1 v n xs->e≠55->W'.ownsRow base e 1 v n xs:=fun ho he=>own_other' ho (fun g hg'=>by
  obtain⟨c,fz,hc⟩:=Kp ho g hg';exact j g c _ fz hc he)
 refine⟨d h.s (by decide),?_,⟨X++[(t,va)],?_,?_,?_,Hb hA.2 hvn⟩⟩
 ·refine h.f.keep fun g cs fz hc hge=>?_
  rcases hc with hc|hc
  ·exact j g cs _ fz hc (by decide)
  exact j g cs _ fz hc (by decide)
 ·rw[Yr,hX];rfl
 ·rw[Zs,Yn]
  simpa using hr1
 intro x A
 rcases Zm.1 A with A|A
 ·exact d (hA.1 x A) (by decide)
 obtain rfl:=Zv.1 A;exact d hva (by decide)
theorem TZ {w:World}{vs vf vt vk:Value}(h:BankO w vs vf vt S F T)(hz:BankZ S F T)(hs:SmallB S F T)(hvs:∃ ad n c,vs=.slice (some ad) n c)(hk:Kg w vk t.kids)(hsk:NW vk t.kids.length)(ht:F1 t) :
 Calls prog 22 #[.agg #[vs,vf,vt],.agg #[.int .i64 t.op,.string (Oo t.sort),.string (Oo t.text),.int .i64 t.a,.int .i64 t.b,vk]] w fun e w'=>∃ us uf ut,e=.returned (.agg #[.int .i64 (SM S F T t),.int .i64 (SW S F T t),us,uf,ut])/\BankN w' w.heap.size us uf ut (ST S F T t) (SA S F T t) (SB S F T t)/\Up w w':=by
 have HO:=Hd h;have l5:=Hd (fun W (hb:Up w W)=>Lh (h.at'.bl hb) hz hvs);have HK:=Hd hk;have q4:=Hd hsk;have HT:=Hd ht;have HS:=Hd hs;have n2:=Hd (fun W (hb:Up w W)=>S6 vs vf vt S Gt F T T.length t vk W (h.at'.bl hb).s (h.at'.bl hb).f (h.at'.bl hb).t (hk.bl hb) leR hs.t.1 hs.f.1 ht.2.2 ht.1 ht.2.1 (fun u hu=>(hs.t.2 u hu).1) (fun w' _=>IT t vk w' ht.2.1));obtain⟨a1,c1,e1,-,-,-⟩:=h.at'.s;obtain⟨a2,c2,e2,-,-,-⟩:=h.at'.f;obtain⟨a3,c3,e3,-,-,-⟩:=h.at'.t;obtain⟨a4,c4,rfl,-,-,-⟩:=hk;subst e1 e2 e3;have t6:=hs.t.1;clear h hz hvs hsk ht hs
 go_in
 go_upto_region 1 with fail
 obtain⟨W3,n6,n7,x1,x2,x3,o0⟩:=GK w [.slice a1 S.length c1,.slice a2 F.length c2,.slice a3 T.length c3] [.int .i64 t.op,.string (Oo t.sort),.string (Oo t.text),.int .i64 t.a,.int .i64 t.b,.slice a4 t.kids.length c4] [.int .i64 0,.int .i64 0,.slice none 0 0,.slice none 0 0,.slice none 0 0] 31 55 33;rw[n6];clear n6;have l1:=Hd n7;have g5:=Hd x1;have k0:=Hd x2;have k1:=Hd x3;have m8:=Hd o0;obtain⟨b0,b1,b2⟩:=g5.o.c3;clear n7 x1 x2 x3 o0
 go_wp2_with fail
 clear b0 b1 b2;refine (l5.o W3 l1.o).mono ?_;rintro e w4 ⟨rfl,d5⟩;have g2:=l1.up d5;have a8:=Hd (g5.o.bl g5.o.lt d5);have A:=Hd (k0.o.bl k0.o.lt d5);have d:=Hd (k1.o.bl k1.o.lt d5);have m9:Hid (w.heap.size+1+1+1<=w4.heap.size):=by have:=d5.size;have:=m8.o;unfold Hid;omega
 clear d5 g5 k0 k1 l5 m8
 cases h0:Gn S Gt F T with
 | false=>
   have HE:Hid (SM S F T t=1):=by unfold Hid SM;rw[if_pos h0]
   have r0:=d.o.cell 0;have r1:=d.o.cell 1;have r2:=d.o.cell 2;have r3:=d.o.cell 3;have r4:=d.o.cell 4;obtain⟨f0,f1,f2,f3,f4⟩:=d.o.f5;clear h0
   go_wp2_with fail
   obtain⟨WE,I,E,b9,hh⟩:=YB d.o g2.o (show w.heap.size<=w.heap.size+1+1 by omega) (.int .i64 1) (.int .i64 0) (.slice none 0 0) (.slice none 0 0) (.slice none 0 0);rw[I];have e0:=E.cell 0;have e1:=E.cell 1;have e2:=E.cell 2;have e3:=E.cell 3;have e4:=E.cell 4;refine Jg (v:=.agg #[.int .i64 1,.int .i64 0,.slice none 0 0,.slice none 0 0,.slice none 0 0]) ?_ rfl ⟨.slice none 0 0,.slice none 0 0,.slice none 0 0,?_,?_,b9⟩
   ·clear E b9 hh I;simp[results,results22,go_sem,e0,e1,e2,e3,e4]
   ·unfold SW;rw[HE.o];rfl
   unfold ST SA SB;rw[HE.o];exact Ag _ _
 | true=>
   have k7:Hid (∀ (k j:Int),SM S F T t=k->SW S F T t=j->k≠1->¬ (k=0/\G9 T t<0)->∀ w5 w6 p1 q1 p2 q2 p3 q3,Up w w5->Bx w5 (w.heap.size+1+1) [.int .i64 0,.int .i64 0,.slice none 0 0,.slice none 0 0,.slice none 0 0]->w.heap.size+1+1+1<=w5.heap.size->Up w5 w6->BankN w6 w5.heap.size (.slice p1 S.length q1) (.slice p2 F.length q2) (.slice p3 T.length q3) S F T ->
    ∃ WE,((((w6.setCell ⟨w.heap.size+1+1,0,none⟩ (.int .i64 k)).setCell ⟨w.heap.size+1+1,1,none⟩ (.int .i64 j)).setCell ⟨w.heap.size+1+1,2,none⟩ (.slice p1 S.length q1)).setCell ⟨w.heap.size+1+1,3,none⟩ (.slice p2 F.length q2)).setCell ⟨w.heap.size+1+1,4,none⟩ (.slice p3 T.length q3)=WE/\Bx WE (w.heap.size+1+1) [.int .i64 k,.int .i64 j,.slice p1 S.length q1,.slice p2 F.length q2,.slice p3 T.length q3]/\∃ us uf ut,Ending.returned (.agg #[.int .i64 k,.int .i64 j,.slice p1 S.length q1,.slice p2 F.length q2,.slice p3 T.length q3])=.returned (.agg #[.int .i64 (SM S F T t),.int .i64 (SW S F T t),us,uf,ut])/\BankN WE w.heap.size us uf ut (ST S F T t) (SA S F T t) (SB S F T t)/\Up w WE):=fun k j hk hj h1 h2 w5 w6 p1 q1 p2 q2 p3 q3 hb5 hx hsz hb6 hN=>by
    obtain⟨WE,I,E,b9,hh⟩:=YB (hx.bl hx.lt hb6) (hb5.trans (hb6.mono hb5.size)) (show w.heap.size<=w.heap.size+1+1 by omega) (.int .i64 k) (.int .i64 j) (.slice p1 S.length q1) (.slice p2 F.length q2) (.slice p3 T.length q3);refine⟨WE,I,E,.slice p1 S.length q1,.slice p2 F.length q2,.slice p3 T.length q3,?_,?_,b9⟩
    ·rw[hj,hk]
    unfold ST SA SB;rw[hk,if_neg h1,if_neg h1,if_neg h1,if_neg h2];exact (hN.keep (w':=WE) (fun j hj _=>hh j (by omega))).lower hb5.size
   have HG:=Hd h0;obtain⟨b0,b1,b2⟩:=a8.o.c3;obtain⟨t0,t1,t2,t3,t4,t5⟩:=TO A.o;clear h0
   go_wp2_with fail
   refine (n2.o w4 g2.o).mono ?_;rintro e w5 ⟨rfl,hb5⟩;have d3:=g2.up hb5;have a8:=Hd (a8.o.bl a8.o.lt hb5);have A:=Hd (A.o.bl A.o.lt hb5);have d:=Hd (d.o.bl d.o.lt hb5);have j7:Hid (w.heap.size+1+1+1<=w5.heap.size):=by have:=hb5.size;have:=m9.o;unfold Hid;omega
   clear hb5 b0 b1 b2 t0 t1 t2 t3 t4 t5 g2 m9 n2;obtain⟨b0,b1,b2⟩:=a8.o.c3
   cases h6:U6 S Gt F T T.length t with
   | false=>
     have HE:Hid (SM S F T t=5):=by unfold Hid SM;rw[if_neg (by rw[HG.o];decide),if_pos h6]
     clear h6
     go_wp2_with fail
     refine (Dj 5 (HO.o.bl d3.o) HS.o).mono ?_;rintro e w6 ⟨us,uf,ut,rfl,hN,hb6⟩;obtain⟨p1,q1,rfl,-,-,-⟩:=hN.at.s;obtain⟨p2,q2,rfl,-,-,-⟩:=hN.at.f;obtain⟨p3,q3,rfl,-,-,-⟩:=hN.at.t;have V:=Hd (d.o.bl d.o.lt hb6);have e6:=Hd (k7.o 5 0 HE.o (by unfold SW;rw[HE.o];rfl) (by decide) (by rintro⟨h,-⟩;cases h) w5 w6 p1 q1 p2 q2 p3 q3 d3.o d.o j7.o hb6 hN);have r0:=V.o.cell 0;have r1:=V.o.cell 1;have r2:=V.o.cell 2;have r3:=V.o.cell 3;have r4:=V.o.cell 4;obtain⟨f0,f1,f2,f3,f4⟩:=V.o.f5;clear hN hb6
     go_wp2_with fail
     obtain⟨WE,I,E,hR⟩:=e6.o;rw[I];have e0:=E.cell 0;have e1:=E.cell 1;have e2:=E.cell 2;have e3:=E.cell 3;have e4:=E.cell 4;refine Jg (v:=.agg #[.int .i64 5,.int .i64 0,.slice p1 S.length q1,.slice p2 F.length q2,.slice p3 T.length q3]) ?_ rfl hR;clear E I hR;simp[results,results22,go_sem,e0,e1,e2,e3,e4]
   | true=>
     have p8:=Hd h6;obtain⟨t0,t1,t2,t3,t4,t5⟩:=TO A.o;clear h6
     go_wp2_with fail
     refine (UA _ _ T t w5 (HO.o.at'.bl d3.o).t (HK.o.bl d3.o)).mono ?_;rintro e w7 ⟨rfl,d6⟩;have b7:=d3.up d6;have a8:=Hd (a8.o.bl a8.o.lt d6);have A:=Hd (A.o.bl A.o.lt d6);have d:=Hd (d.o.bl d.o.lt d6);have j8:Hid (w.heap.size+1+1+1<=w7.heap.size):=by have:=d6.size;have:=j7.o;unfold Hid;omega
     clear d6 b0 b1 b2 t0 t1 t2 t3 t4 t5 d3 j7;obtain⟨b0,b1,b2⟩:=a8.o.c3;have g4:Hid (SM S F T t=if 0<=G9 T t then 0 else if 3000<=T.length then 4 else 0):=by unfold Hid SM;rw[if_neg (by rw[HG.o];decide),if_neg (by rw[p8.o];decide)]
     have j4:Hid (SW S F T t=if SM S F T t=0 then (if 0<=G9 T t then G9 T t else (T.length:Int)) else 0):=rfl;obtain⟨q,hq⟩:=Oa (G9 T t);have HQ:=Hd hq;rw[hq];rw[hq] at g4 j4;clear hq
     by_cases b5:0<=q
     ·have HE:Hid (SM S F T t=0):=g4.o.trans (if_pos b5);have HI:Hid (SW S F T t=q):=by unfold Hid;rw[j4.o,if_pos HE.o,if_pos b5]
      have y0:decide ((0:Int)<=q)=true:=Ja b5;clear b5
      go_wp2_with fail
      refine (Ai (HO.o.bl b7.o) HS.o).mono ?_;rintro e w6 ⟨us,uf,ut,rfl,h1,h2,h3,hb6⟩;have hN:BankN w6 w7.heap.size us uf ut S F T:=⟨h1,h2,h3⟩;obtain⟨p1,q1,rfl,-,-,-⟩:=hN.at.s;obtain⟨p2,q2,rfl,-,-,-⟩:=hN.at.f;obtain⟨p3,q3,rfl,-,-,-⟩:=hN.at.t;have V:=Hd (d.o.bl d.o.lt hb6);have e6:=Hd (k7.o 0 q HE.o HI.o (by decide) (by rintro⟨-,h⟩;rw[HQ.o] at h;rw[Ju] at y0;omega) w7 w6 p1 q1 p2 q2 p3 q3 b7.o d.o j8.o hb6 hN);have r0:=V.o.cell 0;have r1:=V.o.cell 1;have r2:=V.o.cell 2;have r3:=V.o.cell 3;have r4:=V.o.cell 4;obtain⟨f0,f1,f2,f3,f4⟩:=V.o.f5;clear hN hb6 h1 h2 h3
      go_wp2_with fail
      obtain⟨WE,I,E,hR⟩:=e6.o;rw[I];have e0:=E.cell 0;have e1:=E.cell 1;have e2:=E.cell 2;have e3:=E.cell 3;have e4:=E.cell 4;refine Jg (v:=.agg #[.int .i64 0,.int .i64 q,.slice p1 S.length q1,.slice p2 F.length q2,.slice p3 T.length q3]) ?_ rfl hR;clear E I hR;simp[results,results22,go_sem,e0,e1,e2,e3,e4]
     have y0:decide ((0:Int)<=q)=false:=Jc b5
     by_cases j2:3000<=T.length
     ·have HE:Hid (SM S F T t=4):=by unfold Hid;rw[g4.o,if_neg b5,if_pos j2]
      have y4:decide ((3000:Int)<=(T.length:Int))=true:=Ja (by omega)
      go_wp2_with fail
      refine (Dj 4 (HO.o.bl b7.o) HS.o).mono ?_;rintro e w6 ⟨us,uf,ut,rfl,hN,hb6⟩;obtain⟨p1,q1,rfl,-,-,-⟩:=hN.at.s;obtain⟨p2,q2,rfl,-,-,-⟩:=hN.at.f;obtain⟨p3,q3,rfl,-,-,-⟩:=hN.at.t;have V:=Hd (d.o.bl d.o.lt hb6);have e6:=Hd (k7.o 4 0 HE.o (by unfold SW;rw[HE.o];rfl) (by decide) (by rintro⟨h,-⟩;cases h) w7 w6 p1 q1 p2 q2 p3 q3 b7.o d.o j8.o hb6 hN);have r0:=V.o.cell 0;have r1:=V.o.cell 1;have r2:=V.o.cell 2;have r3:=V.o.cell 3;have r4:=V.o.cell 4;obtain⟨f0,f1,f2,f3,f4⟩:=V.o.f5;clear hN hb6
      go_wp2_with fail
      obtain⟨WE,I,E,hR⟩:=e6.o;rw[I];have e0:=E.cell 0;have e1:=E.cell 1;have e2:=E.cell 2;have e3:=E.cell 3;have e4:=E.cell 4;refine Jg (v:=.agg #[.int .i64 4,.int .i64 0,.slice p1 S.length q1,.slice p2 F.length q2,.slice p3 T.length q3]) ?_ rfl hR;clear E I hR;simp[results,results22,go_sem,e0,e1,e2,e3,e4]
     have HE:Hid (SM S F T t=0):=by unfold Hid;rw[g4.o,if_neg b5,if_neg j2]
     have HI:Hid (SW S F T t=(T.length:Int)):=by unfold Hid;rw[j4.o,if_pos HE.o,if_neg b5]
     have p9:Hid (G9 T t<0):=by unfold Hid;rw[HQ.o];omega
     have y4:decide ((3000:Int)<=(T.length:Int))=false:=Jc (by omega)
     go_wp2_with fail
     refine (Ai (HO.o.bl b7.o) HS.o).mono ?_;rintro e U ⟨us,uf,ut,rfl,h1,h2,h3,f9⟩;have f8:BankN U w7.heap.size us uf ut S F T:=⟨h1,h2,h3⟩;obtain⟨p1,q1,rfl,-,-,-⟩:=f8.at.s;obtain⟨p2,q2,rfl,-,-,-⟩:=f8.at.f;obtain⟨p3,q3,rfl,-,-,-⟩:=f8.at.t;have j5:=Hd f8;have l2:=b7.up f9;have A:=Hd (A.o.bl A.o.lt f9);have d:=Hd (d.o.bl d.o.lt f9);have n0:Hid (w.heap.size+1+1+1<=w7.heap.size/\w7.heap.size<=U.heap.size):=⟨j8.o,f9.size⟩;clear f8 h1 h2 h3 f9 b0 b1 b2
     go_upto_region 12 with fail
     obtain⟨W9,d4⟩:=Oa (U.alloc (.cells #[.slice p1 S.length q1,.slice p2 F.length q2,.slice p3 T.length q3] 31));have h9:Up U W9:=by rw[<-d4];exact Oz _ _
     have o2:Bx W9 U.heap.size [.slice p1 S.length q1,.slice p2 F.length q2,.slice p3 T.length q3]:=by rw[<-d4];exact Oi U _ _
     have l3:=Hd o2;have q6:Hid (∃ cs fz,W9.heap[U.heap.size]? = some (.cells cs 31 fz)):=by unfold Hid;rw[<-d4];exact⟨_,_,Vg⟩
     have j6:=Hd (j5.o.keep (w':=W9) (fun k _ hk=>h9.block k hk));have g3:=l2.up h9;have A:=Hd (A.o.bl A.o.lt h9);have d:=Hd (d.o.bl d.o.lt h9);have l4:Hid (∀ g,(Value.slice p3 T.length q3).ownBlock=some g->w7.heap.size<=g/\g<U.heap.size):=fun g hg=>by
      obtain⟨X,-,hr,-⟩:=j5.o.t;exact⟨Ol hr g hg,(hr.lt g hg).2⟩
     have q0:Hid (W9.heap.size=U.heap.size+1):=by unfold Hid;rw[<-d4];simp
     have t5:=A.o.cell 5;simp only[Jm,Js] at t5;rw[d4];clear d4 h9 o2 j5 l2
     go_wp2_with (at_builtin;refine Tj (L:=t.kids) rfl _ _ rfl rfl rfl ?va ?sh ?ln ?_)
     case va=>exact HK.o.bl g3.o
     case sh=>exact q4.o
     case ln=>have:=HT.o.2.2;omega
     intro va k9 O p5 q5 e5 J;subst e5;have A:=Hd (A.o.bl A.o.lt J);have d:=Hd (d.o.bl d.o.lt J);have t5:=A.o.cell 5;have f5:=A.o.fz 5;simp only[Jm,Js] at t5;have e7:=Hd O;have d7:=Hd J;clear O J
     go_upto_region 14 with fail
     obtain⟨G,Z⟩:=Oa (k9.setCell ⟨w.heap.size+1,5,none⟩ (.slice p5 t.kids.length q5));have g9:∀ k,k≠w.heap.size+1->G.heap[k]? = k9.heap[k]? := fun k hk=>by rw[<-Z];exact Jh _ ⟨w.heap.size+1,5,none⟩ _ _ hk
     have o3:G.heap.size=k9.heap.size:=by rw[<-Z];simp[World.setCell]
     have A:Hid (Bx G (w.heap.size+1) [.int .i64 t.op,.string (Oo t.sort),.string (Oo t.text),.int .i64 t.a,.int .i64 t.b,.slice p5 t.kids.length q5]):=by unfold Hid;rw[<-Z];exact A.o.set 5 _
     have J:=d7.o;have O:=e7.o;have o1:=n0.o;have q8:=q0.o;have n9:=J.size;have a7:∀ k,k<W9.heap.size->k≠w.heap.size+1->G.heap[k]? = W9.heap[k]? := fun k hk h1=>(g9 k h1).trans (J.block k hk);have b3:Hid (Up w G):=by unfold Hid;rw[<-Z];exact (g3.o.trans (J.mono g3.o.size)).setCell (p:=⟨w.heap.size+1,5,none⟩) (by show w.heap.size<=w.heap.size+1;omega) _
     have i8:=j6.o.keep (w':=G) (fun k h1 hk=>a7 k hk (by omega));have d8:Hid (Bx G U.heap.size [.slice p1 S.length q1,.slice p2 F.length q2,.slice p3 T.length q3]):=by
      obtain⟨ty,hh⟩:=l3.o;exact⟨ty,(a7 _ (by omega) (by omega)).trans hh⟩
     have j9:Hid (∃ cs fz,G.heap[U.heap.size]? = some (.cells cs 31 fz)):=by obtain⟨cs,fz,h⟩:=q6.o;exact⟨cs,fz,(a7 _ (by omega) (by omega)).trans h⟩
     have d:Hid (Bx G (w.heap.size+1+1) [.int .i64 0,.int .i64 0,.slice none 0 0,.slice none 0 0,.slice none 0 0]):=by
      obtain⟨ty,hh⟩:=d.o;exact⟨ty,(g9 _ (by omega)).trans hh⟩
     have m7:Hid (U.heap.size+1<=G.heap.size):=by unfold Hid;omega
     obtain⟨X,hX,d2,Y⟩:=j6.o.t;have n8:G.ownsRow w7.heap.size 55 6 (.slice p3 T.length q3) T.length (X.flatMap Ho):=own_other' d2 (fun g hg=>a7 g (d2.lt g hg).2 (by have:=Ol d2 g hg;omega));have n5:(∀ x∈X,G.ownsRow w7.heap.size 3 1 x.2 x.1.kids.length (Nx x.1.kids))/\X.Pairwise Nq:=⟨fun x hx=>own_other' (Y.1 x hx) (fun g hg=>a7 g ((Y.1 x hx).lt g hg).2 (by have:=Ol (Y.1 x hx) g hg;omega)),Y.2⟩;have p0:Hid (∀ x∈X,Nq x (t,Value.slice p5 t.kids.length q5)):=fun x hx b hb e=>by
      have h1:=((Y.1 x hx).lt b hb).2;have h2:=Ol O b e;omega
     have m6:Hid (G.ownsRow w7.heap.size 3 1 (.slice p5 t.kids.length q5) t.kids.length (Nx t.kids)):=Kh (own_other' O (fun g hg=>g9 g (by have:=Ol O g hg;omega))) (show w7.heap.size<=W9.heap.size by omega);have l7:=Hd i8;have p6:=Hd hX;have l6:=Hd n8;have p4:=Hd n5;obtain⟨m0,m1,m2,m3,m4,m5⟩:=TO A.o;have z1:=d8.o.c3.2.2;have q9:=m7.o;rw[Z];clear Z g9 o3 J O a7 hX n8 n5 d2 Y i8 l3 j6 g3 e7 d7 t5 f5 o1 q8 n9;have o1:=n0.o
     go_wp2_with (at_builtin;refine ZC (x:=(t,.slice p5 t.kids.length q5)) (n:=T.length) (base:=w7.heap.size) (xs:=X.flatMap Ho) rfl _ _ rfl rfl ?own2 rfl _ rfl ?hH2 ?hn2 ?hb2 ?_)
     case own2=>exact l6.o
     case hH2=>rfl
     case hn2=>omega
     case hb2=>omega
     intro g8 c8 b6 g0 M j3;have l8:=Hd (l7.o.addT p6.o l6.o p4.o m6.o p0.o M g0);have b4:∀ k,k<G.heap.size->(k<w7.heap.size∨U.heap.size<=k)->b6.heap[k]? = G.heap[k]? := fun k hk hk2=>by
      rw[M.block k (by simp;omega) (fun e=>by have:=l4.o k e.symm;omega)];exact Below.block (Oz G _) k hk
     have d9:Hid (Bx b6 U.heap.size [.slice p1 S.length q1,.slice p2 F.length q2,.slice p3 T.length q3]):=by
      obtain⟨ty,hh⟩:=d8.o;exact⟨ty,(b4 _ (by omega) (.inr leR)).trans hh⟩
     have n3:Hid (Bx b6 (w.heap.size+1+1) [.int .i64 0,.int .i64 0,.slice none 0 0,.slice none 0 0,.slice none 0 0]):=by
      obtain⟨ty,hh⟩:=d.o;exact⟨ty,(b4 _ (by omega) (.inl (by omega))).trans hh⟩
     have l0:Hid (Up w b6):=⟨M.os.trans b3.o.os,M.tape.trans b3.o.tape,M.output.trans b3.o.output,by have:=M.size;have:=b3.o.size;simp at *;omega,fun k hk=>(b4 k (by omega) (.inl (by omega))).trans (b3.o.block k hk)⟩;have s8:g8≠U.heap.size/\g8≠w.heap.size+1+1:=by
      have h2:=Ol g0 g8 rfl
      rcases j3 with h|h
      ·have:=l4.o g8 h;omega
      omega
     have n1:=d9.o.c3.2.2;have nf:=d9.o.fz 2;have h8:Hid (Bx (b6.setCell ⟨U.heap.size,2,none⟩ (.slice (some ⟨g8,0,none⟩) (T.length+1) c8)) U.heap.size [.slice p1 S.length q1,.slice p2 F.length q2,.slice (some ⟨g8,0,none⟩) (T.length+1) c8]):=d9.o.set 2 _;have q7:w.heap.size+1+1≠U.heap.size:=by omega
     have K:=Hd (AR n3.o q7 2 (.slice (some ⟨g8,0,none⟩) (T.length+1) c8));have h7:Hid (Up w (b6.setCell ⟨U.heap.size,2,none⟩ (.slice (some ⟨g8,0,none⟩) (T.length+1) c8))):=l0.o.setCell (p:=⟨U.heap.size,2,none⟩) (by show w.heap.size<=U.heap.size;omega) _;have i6:Hid (BankN (b6.setCell ⟨U.heap.size,2,none⟩ (.slice (some ⟨g8,0,none⟩) (T.length+1) c8)) w7.heap.size (.slice p1 S.length q1) (.slice p2 F.length q2) (.slice (some ⟨g8,0,none⟩) (T.length+1) c8) S F (T++[t])):=by
      obtain⟨cs,fz,h⟩:=j9.o;exact l8.o.keepT ((b4 _ (by omega) (.inr leR)).trans h)
     clear g0 M j3 b4 m0 m1 m2 m3 m4 m5 z1 d8 d
     go_upto_region 15 with fail
     obtain⟨s5,j1⟩:=Oa (b6.setCell ⟨U.heap.size,2,none⟩ (.slice (some ⟨g8,0,none⟩) (T.length+1) c8));rw[j1] at h8 K h7 i6 ⊢;clear j1 n1 nf;obtain⟨i0,i1,i2⟩:=h8.o.c3;have r0:=K.o.cell 0;have r1:=K.o.cell 1;have r2:=K.o.cell 2;have r3:=K.o.cell 3;have r4:=K.o.cell 4;obtain⟨f0,f1,f2,f3,f4⟩:=K.o.f5;have s9:((T.length:Int)+1) - 1=(T.length:Int):=by omega
     go_wp2_with fail
     obtain⟨WE,I,E,b9,hh⟩:=YB K.o h7.o (show w.heap.size<=w.heap.size+1+1 by omega) (.int .i64 0) (.int .i64 T.length) (.slice p1 S.length q1) (.slice p2 F.length q2) (.slice (some ⟨g8,0,none⟩) (T.length+1) c8);rw[I];have hN:=(i6.o.keep (w':=WE) (fun k hk _=>hh k (by omega))).lower b7.o.size;have e0:=E.cell 0;have e1:=E.cell 1;have e2:=E.cell 2;have e3:=E.cell 3;have e4:=E.cell 4;refine Jg (v:=.agg #[.int .i64 0,.int .i64 T.length,.slice p1 S.length q1,.slice p2 F.length q2,.slice (some ⟨g8,0,none⟩) (T.length+1) c8]) ?_ rfl ⟨.slice p1 S.length q1,.slice p2 F.length q2,.slice (some ⟨g8,0,none⟩) (T.length+1) c8,?_,?_,b9⟩
     ·clear E b9 hh I hN;simp[results,results22,go_sem,e0,e1,e2,e3,e4]
     ·rw[HE.o,HI.o]
     unfold ST SA SB;rw[HE.o,if_neg (by decide),if_neg (by decide),if_neg (by decide),if_pos ⟨rfl,p9.o⟩];exact hN
end Go.Proofs.YtdmdmgfjpomdbaaGreatDoor
namespace Go.Proofs.YtdmdmgfjpomdbaaGreatDoor
open ChangeShapes WideShapes ChangeAt RowKit
variable {N0 N1:Nat}{w:World}
theorem IV (w:World)(N0 N1:Nat):FunsX w N0 N1 (.slice none 0 0) [] []:=by
 refine⟨⟨none,0,rfl,leR,Jr _,.inl ⟨rfl,.inl ⟨rfl,rfl⟩⟩⟩,rfl,?_,?_,?_,?_⟩
 ·intro g c e;cases e
 ·intro i d;cases d
 ·intro i j d;cases d
 intro b hb;cases hb
theorem EP (w:World)(N0 N1:Nat):TermsX w N0 N1 (.slice none 0 0) [] []:=by
 refine⟨⟨none,0,rfl,leR,Jr _,.inl ⟨rfl,.inl ⟨rfl,rfl⟩⟩⟩,rfl,?_,?_,?_,?_⟩
 ·intro g c e;cases e
 ·intro i d;cases d
 ·intro i j d;cases d
 intro b hb;cases hb
theorem GY (w:World)(N0 N1:Nat):BankX w N0 N1 (.slice none 0 0) (.slice none 0 0) (.slice none 0 0) [] [] [] [] []:=by
 refine⟨⟨none,0,rfl,leR,Jr _,.inl ⟨rfl,.inl ⟨rfl,rfl⟩⟩⟩,?_,IV _ _ _,EP _ _ _,?_⟩
 ·intro b hb;cases hb
 intro b hb;cases hb
theorem Cd.w2 {M0 M1 n s:Nat}{e:TypeId}{v:Value}(h:Cd w N0 N1 e s v n)(h0:M0<=N0)(h1:N1<=M1):Cd w M0 M1 e s v n:=by
 obtain⟨p,c,rfl,hc,j,d⟩:=h;refine⟨p,c,rfl,hc,j,?_⟩
 rcases d with d|⟨g,rfl,h2,h3,d⟩
 ·exact .inl d
 exact .inr ⟨g,rfl,Yc h0 h2,Jq h3 h1,d⟩
theorem BankX.w2 {M0 M1:Nat}{vs vf vt:Value}{S:List (List UInt8)}{F:List Fn}{T:List Tm}{A B:List Value}(h:BankX w N0 N1 vs vf vt S F T A B)(h0:M0<=N0)(h1:N1<=M1):BankX w M0 M1 vs vf vt S F T A B:=
 ⟨h.s.w2 h0 h1,h.sk,⟨h.f.row.w2 h0 h1,h.f.len,h.f.at',fun i hi hi'=>⟨(h.f.rows i hi hi').1.w2 h0 h1,(h.f.rows i hi hi').2⟩,h.f.apart,h.f.kind⟩,⟨h.t.row.w2 h0 h1,h.t.len,h.t.at',fun i hi hi'=>⟨(h.t.rows i hi hi').1.w2 h0 h1,(h.t.rows i hi hi').2⟩,h.t.apart,h.t.kind⟩,h.sa⟩
theorem BankX.on {P:Nat->Prop}{w':World}{vs vf vt:Value}{S:List (List UInt8)}{F:List Fn}{T:List Tm}{A B:List Value}(h:BankX w N0 N1 vs vf vt S F T A B)(ho:OnB P w w')(hn:∀ b,PB vs vf vt A B b->¬ P b):BankX w' N0 N1 vs vf vt S F T A B:=
 ⟨h.s.mk ho.sl,fun b hb=>by obtain⟨n,d⟩:=h.sk b hb;exact⟨n,ho.sl _ _ _ d⟩,h.f.on ho (fun b hb=>hn b (.inr (.inl (.inl hb)))),h.t.on ho (fun b hb=>hn b (.inr (.inr (.inl hb)))),h.sa⟩
end Go.Proofs.YtdmdmgfjpomdbaaGreatDoor
namespace Go.Proofs.YtdmdmgfjpomdbaaGreatDoor
open ChangeShapes WideShapes ChangeAt RowKit Proofs.Tryz
variable {F:List Fn}{S:List (List UInt8)}{T:List Tm}{c1 c2 c3:Nat}{p1 p2 p3:Option Addr}
def TI (S:List (List UInt8))(F:List Fn)(T:List Tm)(t:Tm)(w:World)(e:Ending)(w':World):Prop:=
 ∃ p1 c1 p2 c2 p3 c3 A B,e=.returned (.agg #[.int .i64 (SM S F T t),.int .i64 (SW S F T t),.slice p1 (ST S F T t).length c1,.slice p2 (SA S F T t).length c2,.slice p3 (SB S F T t).length c3]) /\
  BankX w' w.heap.size w'.heap.size (.slice p1 (ST S F T t).length c1) (.slice p2 (SA S F T t).length c2) (.slice p3 (SB S F T t).length c3) (ST S F T t) (SA S F T t) (SB S F T t) A B/\(∀ b,PB (.slice p1 (ST S F T t).length c1) (.slice p2 (SA S F T t).length c2) (.slice p3 (SB S F T t).length c3) A B b->w.heap.size<=b)/\BankN w' w.heap.size (.slice p1 (ST S F T t).length c1) (.slice p2 (SA S F T t).length c2) (.slice p3 (SB S F T t).length c3) (ST S F T t) (SA S F T t) (SB S F T t)/\Up w w'
theorem SJ {w:World}{vs vf vt vk:Value}{t:Tm}(h:BankAt w vs vf vt S F T)(hz:BankZ S F T)(hv:Vars w)(hk:Kg w vk t.kids)(ht:F1 t)(hw:BD [t]) :
 Calls prog 24 #[.agg #[vs,vf,vt],.agg #[.int .i64 t.op,.string (Oo t.sort),.string (Oo t.text),.int .i64 t.a,.int .i64 t.b,vk]] w (TI S F T t w):=by
 have V:=Hd (fun W (hb:Up w W)=>DK (h.bl hb) hz (hv.bl hb));have HV:=Hd hv;have f9:=Hd hk;have HF:=Hd ht;have g0:=Hd hw;have e9:=Hd hz;obtain⟨a1,c1,Y,-,-,-⟩:=h.s;obtain⟨a2,c2,e2,-,-,-⟩:=h.f;obtain⟨a3,c3,Z,-,-,-⟩:=h.t;obtain⟨a4,c4,rfl,-,-,-⟩:=hk;subst Y e2 Z;clear h hz hv ht hw
 go_in
 go_upto_region 1 with fail
 obtain⟨W3,b8,c6,x1,x2,x3,b3⟩:=GK w [.slice a1 S.length c1,.slice a2 F.length c2,.slice a3 T.length c3] [.int .i64 t.op,.string (Oo t.sort),.string (Oo t.text),.int .i64 t.a,.int .i64 t.b,.slice a4 t.kids.length c4] [.int .i64 0,.int .i64 0,.slice none 0 0,.slice none 0 0,.slice none 0 0] 31 55 33;rw[b8];clear b8;have j:=Hd c6;have g1:=Hd x1;have b5:=Hd x2;have G:=Hd x3;have f8:=Hd b3;obtain⟨b0,b1,b2⟩:=g1.o.c3;clear c6 x1 x2 x3 b3
 go_wp2_with fail
 clear b0 b1 b2;refine (V.o W3 j.o).mono ?_;rintro e w4 (⟨hg,rfl,a8⟩|⟨hg,kb,sb,fb,tb,gb,n,vS,vF,vT,bF,rfl,hn,M⟩)
 ·have HE:Hid (SM S F T t=1):=by unfold Hid SM;rw[if_pos (by rw[<-Li];exact hg)]
  have U:=j.up a8;have d:=Hd (G.o.bl G.o.lt a8);have r0:=d.o.cell 0;have r1:=d.o.cell 1;have r2:=d.o.cell 2;have r3:=d.o.cell 3;have r4:=d.o.cell 4;obtain⟨f0,f1,f2,f3,f4⟩:=d.o.f5;clear hg a8 V
  go_wp2_with fail
  obtain⟨WE,J,I,K,hh⟩:=YB d.o U.o (show w.heap.size<=w.heap.size+1+1 by omega) (.int .i64 1) (.int .i64 0) (.slice none 0 0) (.slice none 0 0) (.slice none 0 0);rw[J];have e0:=I.cell 0;have Y:=I.cell 1;have e2:=I.cell 2;have Z:=I.cell 3;have e4:=I.cell 4;refine Jg (v:=.agg #[.int .i64 1,.int .i64 0,.slice none 0 0,.slice none 0 0,.slice none 0 0]) ?_ rfl ?_
  ·clear I K hh J;simp[results,results24,go_sem,e0,Y,e2,Z,e4]
  unfold TI SW ST SA SB;rw[HE.o];exact⟨none,0,none,0,none,0,[],[],rfl,GY _ _ _,(fun b hb=>by rcases hb with hb|(hb|⟨a,ha,hb⟩)|(hb|⟨a,ha,hb⟩)<;>first|cases hb|cases ha),Ag _ _,K⟩
 have c8:Gn S Gt F T=true:=by rw[<-Li];exact hg
 have U:Hid (Up w w4):=j.o.trans (M.low.mono j.o.size);have b6:=Hd (b5.o.bl b5.o.lt M.low);have d:=Hd (G.o.bl G.o.lt M.low);have O:=Hd (TY M hn hg (HV.o.bl j.o) e9.o (f9.o.bl U.o) HF.o g0.o);unfold Xz at O;have HE:Hid (¬ SM S F T t=1):=by
  unfold Hid SM;rw[if_neg (by rw[c8];decide)]
  split
  ·decide
  split
  ·decide
  split<;>decide
 obtain⟨n0,n1,n2,n3,n4,n5⟩:=TO b6.o;clear hg hn M c8 V
 go_wp2_with fail
 refine O.o.mono ?_;rintro e w5 ⟨rfl,j6,n',nF,hB⟩;have E:=Hd hB;have e8:Hid (Up w w5):=j.o.trans (hB.low.mono j.o.size);have d:=Hd (G.o.bl G.o.lt hB.low);obtain⟨p1,d1,Y,-⟩:=hB.at.s;obtain⟨p2,d2,e2,-⟩:=hB.at.f;obtain⟨p3,d3,Z,-⟩:=hB.at.t;subst Y e2 Z;obtain⟨k0,k1,k2,-⟩:=E.o.box.c7;have r0:=d.o.cell 0;have r1:=d.o.cell 1;have r2:=d.o.cell 2;have r3:=d.o.cell 3;have r4:=d.o.cell 4;obtain⟨f0,f1,f2,f3,f4⟩:=d.o.f5;clear hB O n0 n1 n2 n3 n4 n5 b6
 go_wp2_with fail
 obtain⟨WE,J,I,K,hh⟩:=YB d.o e8.o (show w.heap.size<=w.heap.size+1+1 by omega) (.int .i64 (SM S F T t)) (.int .i64 (SW S F T t)) (.slice p1 S.length d1) (.slice p2 F.length d2) (.slice p3 (SB S F T t).length d3);have hO:OnB (fun b=>b=w.heap.size+1+1) w5 WE:=by
  rw[<-J];exact (((((OnB.refl (fun b=>b=w.heap.size+1+1) w5).set rfl 0 _).set rfl 1 _).set rfl 2 _).set rfl 3 _).set rfl 4 _
 obtain⟨A,B,hX,d0⟩:=E.o.x;have b3:=f8.o;have b9:=(hX.on hO (fun b hb e=>by have:=d0 b hb;omega)).w2 j.o.size hO.size;have i6:=E.o.ids;have h1:=E.o.far;have hN:BankN w5 W3.heap.size (.slice p1 S.length d1) (.slice p2 F.length d2) (.slice p3 (SB S F T t).length d3) S F (SB S F T t):=⟨Kh E.o.sr (by omega),E.o.fr.lower (by omega),E.o.tr.lower (by omega)⟩;have b7:=(hN.keep (w':=WE) (fun k hk _=>hh k (by omega))).lower j.o.size;rw[J];have e0:=I.cell 0;have Y:=I.cell 1;have e2:=I.cell 2;have Z:=I.cell 3;have e4:=I.cell 4;refine Jg (v:=.agg #[.int .i64 (SM S F T t),.int .i64 (SW S F T t),.slice p1 S.length d1,.slice p2 F.length d2,.slice p3 (SB S F T t).length d3]) ?_ rfl ?_
 ·clear I K hh J hO hX b9 hN b7;simp[results,results24,go_sem,e0,Y,e2,Z,e4]
 unfold TI;have g6:ST S F T t=S:=by unfold ST;rw[if_neg HE.o]
 have g7:SA S F T t=F:=by unfold SA;rw[if_neg HE.o]
 rw[g6,g7];exact⟨p1,d1,p2,d2,p3,d3,A,B,rfl,b9,(fun b hb=>Yc j.o.size (d0 b hb)),b7,K⟩
theorem It {q1 q2 q3:Option Addr}{d1 d2 d3:Nat}(er id:Int)(w:World)(h1:BankAt w (.slice p1 S.length c1) (.slice p2 F.length c2) (.slice p3 T.length c3) S F T)(h2:BankAt w (.slice q1 S.length d1) (.slice q2 F.length d2) (.slice q3 T.length d3) S F T) :
 Calls prog 10 #[.agg #[.int .i64 er,.int .i64 id,.slice p1 S.length c1,.slice p2 F.length c2,.slice p3 T.length c3],.agg #[.int .i64 er,.int .i64 id,.slice q1 S.length d1,.slice q2 F.length d2,.slice q3 T.length d3]] w fun e w'=>e=.returned (.bool true)/\Up w w':=by
 obtain⟨K,A,hb2,O,U,J⟩:=VO w [.int .i64 er,.int .i64 id,.slice p1 S.length c1,.slice p2 F.length c2,.slice p3 T.length c3] [.int .i64 er,.int .i64 id,.slice q1 S.length d1,.slice q2 F.length d2,.slice q3 T.length d3] 33 33;have G:=Hd hb2;have d:=Hd O;have h:=Hd U;have V:=Hd (Cj K (h1.bl hb2) (h2.bl hb2));have j:=Hd A;clear A hb2 O U J h1 h2
 go_in
 go_upto_region 1 with fail
 have M:(w.alloc (.cells #[.int .i64 er,.int .i64 id,.slice p1 S.length c1,.slice p2 F.length c2,.slice p3 T.length c3] 33)).alloc (.cells #[.int .i64 er,.int .i64 id,.slice q1 S.length d1,.slice q2 F.length d2,.slice q3 T.length d3] 33)=K:=j.o;rw[M];clear M j;have a0:=d.o.cell 0;have a1:=d.o.cell 1;have a2:=d.o.cell 2;have a3:=d.o.cell 3;have a4:=d.o.cell 4;have b0:=h.o.cell 0;have b1:=h.o.cell 1;have b2:=h.o.cell 2;have Y:=h.o.cell 3;have Z:=h.o.cell 4
 go_wp2_with fail
 refine V.o.mono ?_;rintro e w3 ⟨rfl,E⟩;have I:=G.up E;clear E a0 a1 a2 a3 a4 b0 b1 b2 Y Z
 go_wp2
 go_ret
 exact⟨rfl,I.o⟩
theorem Mh (N0 N1:Nat){A B:List Value}(er id:Int)(w:World)(h:BankX w N0 N1 (.slice p1 S.length c1) (.slice p2 F.length c2) (.slice p3 T.length c3) S F T A B)(hs:SmallB S F T) :
 Calls prog 13 #[.agg #[.int .i64 er,.int .i64 id,.slice p1 S.length c1,.slice p2 F.length c2,.slice p3 T.length c3],.int .i64 1] w fun e w'=>e=.returned (.int .i64 (kB S F T:Nat))/\OnB (PB (.slice p1 S.length c1) (.slice p2 F.length c2) (.slice p3 T.length c3) A B) w w'/\HeldB w' (.slice p1 S.length c1) (.slice p2 F.length c2) (.slice p3 T.length c3) S F T A B:=by
 have E:Hid (Up w (w.alloc (.cells #[.int .i64 er,.int .i64 id,.slice p1 S.length c1,.slice p2 F.length c2,.slice p3 T.length c3] 33))):=Oz _ _;have d:Hid (Bx (w.alloc (.cells #[.int .i64 er,.int .i64 id,.slice p1 S.length c1,.slice p2 F.length c2,.slice p3 T.length c3] 33)) w.heap.size [.int .i64 er,.int .i64 id,.slice p1 S.length c1,.slice p2 F.length c2,.slice p3 T.length c3]):=Oi w _ _;have J:Hid (OnB (PB (.slice p1 S.length c1) (.slice p2 F.length c2) (.slice p3 T.length c3) A B) w (w.alloc (.cells #[.int .i64 er,.int .i64 id,.slice p1 S.length c1,.slice p2 F.length c2,.slice p3 T.length c3] 33))):=(OnB.refl _ w).bl E.o;have M:=Hd (Fy N0 N1 _ (h.on ((OnB.refl (fun _=>False) w).bl E.o) (fun _ _ h=>h)) hs);have a2:=d.o.cell 2;have a3:=d.o.cell 3;have a4:=d.o.cell 4;clear h hs
 go_in
 go_wp2_with fail
 refine M.o.mono ?_;rintro e w2 ⟨rfl,U,O⟩;have K:=Hd (J.o.trans U);have G:=Hd O;clear U O M a2 a3 a4;obtain⟨V,j⟩:=Oa (kB S F T);rw[j];have I:=Hd j;clear j
 go_wp2
 go_ret
 exact⟨Eo (congrArg (fun n:Nat=>(n:Int)) I.o.symm),K.o,G.o⟩
theorem Q6 {A B:List Value}(er id:Int)(w:World)(sh:ShB (.slice p1 S.length c1) (.slice p2 F.length c2) (.slice p3 T.length c3) S F T A B)(h:HeldB w (.slice p1 S.length c1) (.slice p2 F.length c2) (.slice p3 T.length c3) S F T A B)(hs:SmallB S F T) :
 Calls prog 14 #[.agg #[.int .i64 er,.int .i64 id,.slice p1 S.length c1,.slice p2 F.length c2,.slice p3 T.length c3],.int .i64 1] w fun e w'=>e=.returned (.int .i64 (kB S F T:Nat))/\Up w w':=by
 have j:Hid (Up w (w.alloc (.cells #[.int .i64 er,.int .i64 id,.slice p1 S.length c1,.slice p2 F.length c2,.slice p3 T.length c3] 33))):=Oz _ _;have d:Hid (Bx (w.alloc (.cells #[.int .i64 er,.int .i64 id,.slice p1 S.length c1,.slice p2 F.length c2,.slice p3 T.length c3] 33)) w.heap.size [.int .i64 er,.int .i64 id,.slice p1 S.length c1,.slice p2 F.length c2,.slice p3 T.length c3]):=Oi w _ _;have I:=Hd (OQ _ sh (h.bl j.o) hs);have a2:=d.o.cell 2;have a3:=d.o.cell 3;have a4:=d.o.cell 4;clear h hs sh;obtain⟨kk,E⟩:=Oa (kB S F T);rw[E] at I ⊢;have y:decide ((kk:Int)<0)=false:=Jc (by omega);clear E
 go_in
 go_wp2_with fail
 refine I.o.mono ?_;rintro e w2 ⟨rfl,hb⟩;have G:=j.up hb;clear hb I a2 a3 a4
 go_wp2
 go_ret
 exact⟨rfl,G.o⟩
theorem BT (hs:SmallB S F T):0<kB S F T/\kB S F T<=900000000000000:=by
 have d:=Ds (k:=1+S.length) (fun f hf=>(hs.f.2 f hf).2.1.1) F.length leR;have h2:=L9 (k:=kfF F (1+S.length) F.length) (fun t ht=>(hs.t.2 t ht).2.2) T.length leR;have h3:=hs.s.1;have h4:=hs.f.1;have h5:=hs.t.1;have h:1+S.length<=kfF F (1+S.length) F.length:=Nat.le_add_right _ _;have j:kfF F (1+S.length) F.length<=kB S F T:=Nat.le_add_right _ _;have A:kB S F T=kfT T (kfF F (1+S.length) F.length) T.length:=rfl;omega
theorem TV (N0 N1 n k:Nat)(o a b:Int)(t1 t2:ByteArray)(v:Value)(w:World)(h:Cd w N0 N1 3 1 v n)(hn:n<=1048576)(hk:k<=900000000000000) :
 Calls prog 26 #[.agg #[.int .i64 o,.string t1,.string t2,.int .i64 a,.int .i64 b,v],.int .i64 (k:Nat)] w fun e w'=>e=.returned (.int .i64 (k+n:Nat))/\OnB (fun b=>v.ownBlock=some b) w w':=by
 have G:Hid (Bx (w.alloc (.cells #[.int .i64 o,.string t1,.string t2,.int .i64 a,.int .i64 b,v] 55)) w.heap.size [.int .i64 o,.string t1,.string t2,.int .i64 a,.int .i64 b,v]):=Oi w _ _;have d:Hid (OnB (fun b=>v.ownBlock=some b) w (w.alloc (.cells #[.int .i64 o,.string t1,.string t2,.int .i64 a,.int .i64 b,v] 55))):=(OnB.refl _ _).bl (Oz _ _);have A:=Hd (YK N0 N1 n k v _ (h.mk d.o.sl) hn hk);have a1:=G.o.cell 5;obtain⟨p,c,rfl,-,-,-⟩:=h;obtain⟨J,j⟩:=Oa (k+n);rw[j] at A ⊢;clear j
 go_in
 go_wp2_with fail
 refine A.o.mono ?_;rintro e w2 ⟨rfl,I,-⟩;have E:=Hd (d.o.trans I);clear I A a1
 go_wp2
 go_ret
 exact⟨rfl,E.o⟩
end Go.Proofs.YtdmdmgfjpomdbaaGreatDoor
