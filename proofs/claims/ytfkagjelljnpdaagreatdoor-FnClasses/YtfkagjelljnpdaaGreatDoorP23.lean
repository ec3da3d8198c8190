import Derived.Test.YtfkagjelljnpdaaGreatDoorP22
import Derived.OwnWalk
import Derived.DeepKeys4
set_option linter.all false
set_option maxRecDepth 100000
set_option maxHeartbeats 16000000
namespace Go.Proofs.YtfkagjelljnpdaaGreatDoor
open ChangeShapes WideShapes ChangeAt RowKit Proofs.Tryz
variable {T:List Tm}{W w w':World}{n:Nat}{t:Tm}
theorem UF{o:Int}{r:Rule}(h:Kk o=some r):1<=o/\o<=47:=by
 by_cases j:1<=o/\o<=47
 ·exact j
 rw[Fh j]at h;cases h
theorem Xs{o:Int}{r:Rule}(h:Kk o=some r):r∈rules:=by
 unfold Kk at h
 split at h
 ·cases h
 exact List.mem_of_find?_eq_some h
theorem ZS{o:Int}{r:Rule}(h:Kk o=some r):r.least=Uk o/\r.most<=50:=by
 refine⟨?_,(Hw r (Xs h)).2.2.1⟩
 rcases UP (UF h)with rfl|rfl|rfl|rfl|rfl|rfl|rfl|rfl|rfl|rfl|rfl|rfl|rfl|rfl|rfl|rfl|rfl|rfl|rfl|rfl|rfl|rfl|rfl|rfl|rfl|rfl|rfl|rfl|rfl|rfl|rfl|rfl|rfl|rfl|rfl|rfl|rfl|rfl|rfl|rfl|rfl|rfl|rfl|rfl|rfl|rfl|rfl
 all_goals (cases h;rfl)
theorem CK{o:Int}{r:Rule}(h:Kk o=some r)(p:Nat)(hp:r.role p=14):o=11:=by
 rcases UP (UF h)with rfl|rfl|rfl|rfl|rfl|rfl|rfl|rfl|rfl|rfl|rfl|rfl|rfl|rfl|rfl|rfl|rfl|rfl|rfl|rfl|rfl|rfl|rfl|rfl|rfl|rfl|rfl|rfl|rfl|rfl|rfl|rfl|rfl|rfl|rfl|rfl|rfl|rfl|rfl|rfl|rfl|rfl|rfl|rfl|rfl|rfl|rfl
 all_goals (cases h;first|rfl|(exfalso;unfold Rule.role at hp;simp only at hp;split at hp;omega;split at hp<;>omega))
theorem ZC{o:Int}{r:Rule}(h:Kk o=some r)(p:Nat):r.role p<=20:=by
 have:=Hw r (Xs h);unfold Rule.role
 split
 ·omega
 split<;>omega
theorem VX{rd:List UInt8->SI}{num:Tm->Bool}{F:List Fn}{f2:List UInt8->Option Nat}{r:Rule}(h:Kk t.op=some r):Nm rd num F f2 T t=(decide (r.least<=t.kids.length/\t.kids.length<=r.most)&&Di T.length t&&Ot r.sort (rd t.sort).kind&&Gh t&&O6 rd num F f2 T t&&(List.range t.kids.length).all (fun p=>V9 rd F f2 T t (r.role p) p)):=by
 unfold Nm;rw[h]
theorem I4{kb sb fb gb:Nat}{S:List (List UInt8)}{F:List Fn}{vS vF vT v5:Value}{g:List UInt8->Option SI}(h:BK w kb sb fb gb n S F T vS vF vT v5 g)(t:Tm)(vk:Value)(hk:IntsAt w vk t.kids)(num:Tm->Bool)(hT:T.length<=1000000)(hl:t.kids.length<=1048576)(hF:F.length<=1000)(hz:∀u∈T,u.sort.length<=1048576)(hts:t.sort.length<=1048576)(htx:t.text.length<=1048576)(hn:n<=800000000)
 (hnum:t.op=12->((Ou (Oh (Og S)) t.sort).kind=2∨(Ou (Oh (Og S)) t.sort).kind=3)->∀W,Bar gb w W->Calls prog 141 #[.string (Oo t.sort),.string (Oo t.text)] W fun e w'=>e=.returned (.bool (num t))/\Up W w') :
 Calls prog 103 #[.pointer (some ⟨kb,0,none⟩),G6 t vk] w fun e w'=>e=.returned (.bool (Nm (Ou (Oh (Og S))) num F (Ox F) T t))/\Ow w w' kb sb fb gb n S F T vS vF vT v5 60:=by
 obtain⟨qk,dk,rfl,o4,k9,h9⟩:=hk;have HH:=Hd h;have HI:Hid (IntsAt w (.slice qk t.kids.length dk) t.kids):=⟨qk,dk,rfl,o4,k9,h9⟩;have HK:=Hd h9;have HZ:=Hd hz;have j0:=Hd hnum;unfold maxLen at k9;clear h h9 hz hnum;have o2:(Oo t.sort).size<=1048576:=by show t.sort.toArray.size<=_;simpa using hts
 have HB:Hid (Up w (w.alloc (.cells #[.int .i64 t.op,.string (Oo t.sort),.string (Oo t.text),.int .i64 t.a,.int .i64 t.b,.slice qk t.kids.length dk] 38))):=Oy _ _;have e6:Hid (Bx (w.alloc (.cells #[.int .i64 t.op,.string (Oo t.sort),.string (Oo t.text),.int .i64 t.a,.int .i64 t.b,.slice qk t.kids.length dk] 38)) w.heap.size [.int .i64 t.op,.string (Oo t.sort),.string (Oo t.text),.int .i64 t.a,.int .i64 t.b,.slice qk t.kids.length dk]):=Oq _ _ _;obtain⟨O,e3⟩:=O2 (Nm (Ou (Oh (Og S))) num F (Ox F) T t);rw[e3];have f9:=Hd e3;clear e3;unfold G6
 go_in
 go_wp2_with fail
 refine(ZA t.op _ (HH.o.next HB.o).rt).mono ?_
 cases b1:Kk t.op with
 | none=>
   have G:Hid (O=false):=by unfold Hid;rw[<-f9.o];unfold Nm;rw[b1]
   clear b1;rintro e R ⟨rfl,hb2⟩;have d3:=HB.up hb2;have g3:=e6.o.bl e6.o.lt hb2;have t5:=g3.cell 5;simp only[Jr,Jy]at t5;clear hb2 g3;have E:Hid (Up w (R.alloc (.cells #[.int .u8 0,.int .u8 0,.int .u8 0,.int .u8 0,.int .u8 0,.int .u8 0,.int .u8 0] 177))):=d3.o.alloc d3.o.size _;simp only[Option.getD_none,Vy];unfold Rc Mw
   go_wp2
   go_ret
   exact⟨Oz G.o.symm,Ow.of HH.o E.o 60⟩
 | some r=>
   have e8:=Hd b1;have HT:Hid (O=(decide (r.least<=t.kids.length/\t.kids.length<=r.most)&&Di T.length t&&Ot r.sort (Ou (Oh (Og S)) t.sort).kind&&Gh t&&O6 (Ou (Oh (Og S))) num F (Ox F) T t&&(List.range t.kids.length).all (fun p=>V9 (Ou (Oh (Og S))) F (Ox F) T t (r.role p) p))):=by unfold Hid;rw[<-f9.o,VX b1]
   obtain⟨n1,n2,n5,n8,n9,o0,o1⟩:=Hw r (Xs b1);clear b1;rintro e R ⟨rfl,hb2⟩;have d3:=HB.up hb2;have HY:=Hd (e6.o.bl e6.o.lt hb2);have q2:w.heap.size<R.heap.size:=HY.o.lt;clear hb2;simp only[Option.getD_some,Option.isSome_some];obtain⟨la,le,mo,so,r0,r1,r2⟩:=r;simp only at HT n1 n2 n5 n8 n9 o0 o1;have E:Hid (Up w (R.alloc (.cells #[.int .u8 (la:Nat),.int .u8 (le:Nat),.int .u8 (mo:Nat),.int .u8 (so:Nat),.int .u8 (r0:Nat),.int .u8 (r1:Nat),.int .u8 (r2:Nat)] 177))):=d3.o.alloc d3.o.size _;have j5:=Hd (HY.o.alloc (.cells #[.int .u8 (la:Nat),.int .u8 (le:Nat),.int .u8 (mo:Nat),.int .u8 (so:Nat),.int .u8 (r0:Nat),.int .u8 (r1:Nat),.int .u8 (r2:Nat)] 177));have j6:Hid (Bx (R.alloc (.cells #[.int .u8 (la:Nat),.int .u8 (le:Nat),.int .u8 (mo:Nat),.int .u8 (so:Nat),.int .u8 (r0:Nat),.int .u8 (r1:Nat),.int .u8 (r2:Nat)] 177)) R.heap.size [.int .u8 (la:Nat),.int .u8 (le:Nat),.int .u8 (mo:Nat),.int .u8 (so:Nat),.int .u8 (r0:Nat),.int .u8 (r1:Nat),.int .u8 (r2:Nat)]):=Oq _ _ _;unfold Rc
   go_upto_region 2 with fail
   obtain⟨W3,j9⟩:=O2 (R.alloc (.cells #[.int .u8 (la:Nat),.int .u8 (le:Nat),.int .u8 (mo:Nat),.int .u8 (so:Nat),.int .u8 (r0:Nat),.int .u8 (r1:Nat),.int .u8 (r2:Nat)] 177));rw[j9]at E j5 j6 ⊢;clear j9;obtain⟨t0,t1,t2,t3,t4,t5⟩:=j5.o.k6;obtain⟨c0,c1,c2,c3,c4,c5,c6⟩:=j6.o.c7;have d0:Hid (∀W,Up w W->Ow w W kb sb fb gb n S F T vS vF vT v5 60):=fun W hW=>Ow.of HH.o hW 60;have v1:(le:Int)<=255:=by omega
   have v2:(mo:Int)<=255:=by omega
   have v3:(so:Int)<=255:=by omega
   by_cases l1:t.kids.length<le
   ·have G:Hid (O=false):=by unfold Hid;rw[HT.o,Jd (by omega)];rfl
    go_wp2
    go_ret
    exact⟨Oz G.o.symm,d0.o _ E.o⟩
   by_cases l2:mo<t.kids.length
   ·have G:Hid (O=false):=by unfold Hid;rw[HT.o,Jd (by omega)];rfl
    have l0:le<=t.kids.length:=by omega
    go_wp2
    go_ret
    exact⟨Oz G.o.symm,d0.o _ E.o⟩
   have g9:Hid (O=(Di T.length t&&Ot so (Ou (Oh (Og S)) t.sort).kind&&Gh t&&O6 (Ou (Oh (Og S))) num F (Ox F) T t&&(List.range t.kids.length).all (fun p=>V9 (Ou (Oh (Og S))) F (Ox F) T t (Rule.role ⟨la,le,mo,so,r0,r1,r2⟩ p) p))):=by unfold Hid;rw[HT.o,Jb (by omega),Yz]
   have l0:le<=t.kids.length:=by omega
   have r4:t.kids.length<=mo:=by omega
   have p1:t.kids.length<=50:=by omega
   clear HT l1 l2
   go_cut [35] (fun s35 wx=>s35=.bool false/\W3=wx)
   case first=>
    go_wp2
    go_meet
    exact⟨by rw[Jd (by omega),Jd (by omega)];rfl,rfl⟩
   obtain⟨rfl,rfl⟩:=hcut;obtain⟨pt,ct,rfl,r5,o5,-⟩:=HH.o.tr;unfold maxLen at o5;have a2:=(HH.o.next E.o).box.c7.2.2.1
   go_wp2
   go_loopw [39] (fun i wr=>∃k:Nat,k<=t.kids.length/\i=.int .i64 (k:Nat)/\(∀j (h:j<t.kids.length),j<k->0<=t.kids[j]/\t.kids[j]<(T.length:Int))/\W3=wr) (fun i _=>t.kids.length - (intOf i).toNat)
   case atStart=>exact⟨0,Jp _,rfl,fun j _ h=>absurd h (Jz _),rfl⟩
   obtain⟨k,hk,rfl,hp,o3⟩:=hrel;subst o3;have HP:=Hd hp;clear hp
   by_cases Z:k<t.kids.length
   ·rcases HK.o with e0|⟨bq,rfl,m9,k0⟩
    ·rw[e0]at Z;cases Z
    have cx:=(E.o.cell (p:=⟨bq,k,none⟩) m9).trans (k0 k Z);clear k0;have i0:(0:Int)<=(k:Int):=by omega
    have i1:(k:Int)<(t.kids.length:Int):=by omega
    by_cases hx:0<=t.kids[k]/\t.kids[k]<(T.length:Int)
    ·have m6:=Hd hx;obtain⟨y,hy⟩:∃y:Nat,t.kids[k]=(y:Int):=⟨t.kids[k].toNat,by omega⟩;rw[hy]at cx hx;clear hy;have i2:(y:Int)<(T.length:Int):=by omega
     have i6:y<T.length:=by omega
     go_wp2
     go_roundw
     case rel=>exact⟨k+1,by omega,by go_num,fun j hj h2=>by
      rcases J4.1 h2 with h|rfl
      ·exact HP.o j hj h
      exact m6.o,trivial⟩
     simp[intOf];omega
    have G:Hid (O=false):=by
     unfold Hid;have:Di T.length t=false:=by
      unfold Di;rw[Yb];intro h;exact hx (by simpa using Jx.1 h t.kids[k] (Jj Z))
     rw[g9.o,this];rfl
    generalize t.kids[k]=x at cx hx
    by_cases q6:x<0
    ·clear hx
     go_wp2
     go_ret
     exact⟨Oz G.o.symm,d0.o _ E.o⟩
    have q7:(T.length:Int)<=x:=by omega
    clear hx
    go_wp2
    go_ret
    exact⟨Oz G.o.symm,d0.o _ E.o⟩
   have g5:Hid (Di T.length t=true):=by
    unfold Hid Di;rw[Jx];intro x hx;obtain⟨j,hj,rfl⟩:=Ya hx
    simpa using HP.o j hj (by omega)
   have h0:Hid (O=(Ot so (Ou (Oh (Og S)) t.sort).kind&&Gh t&&O6 (Ou (Oh (Og S))) num F (Ox F) T t&&(List.range t.kids.length).all (fun p=>V9 (Ou (Oh (Og S))) F (Ox F) T t (Rule.role ⟨la,le,mo,so,r0,r1,r2⟩ p) p))):=by unfold Hid;rw[g9.o,g5.o,Yz]
   have a1:Hid (∀W,Bar gb W3 W->(W.cell? ⟨w.heap.size,0,none⟩=some (.int .i64 t.op)/\W.cell? ⟨w.heap.size,1,none⟩=some (.string (Oo t.sort))/\W.cell? ⟨w.heap.size,2,none⟩=some (.string (Oo t.text))/\W.cell? ⟨w.heap.size,3,none⟩=some (.int .i64 t.a)/\W.cell? ⟨w.heap.size,4,none⟩=some (.int .i64 t.b)/\W.cell? ⟨w.heap.size,5,none⟩=some (.slice qk t.kids.length dk)/\W.cell? ⟨R.heap.size,4,none⟩=some (.int .u8 (r0:Nat))/\W.cell? ⟨R.heap.size,5,none⟩=some (.int .u8 (r1:Nat))/\W.cell? ⟨R.heap.size,6,none⟩=some (.int .u8 (r2:Nat)))):=fun W hW=>by
    have b0:=hW.keep (HH.o.next E.o).km;exact⟨b0.cell _ _ t0,b0.cell _ _ t1,b0.cell _ _ t2,b0.cell _ _ t3,b0.cell _ _ t4,b0.cell _ _ t5,b0.cell _ _ c4,b0.cell _ _ c5,b0.cell _ _ c6⟩
   have z3:¬ (k:Int)<(t.kids.length:Int):=by omega
   clear g9 hk
   go_wp2_with fail
   refine(A5 (HH.o.next E.o) (so:Nat) ⟨by omega,by omega⟩ (Oo t.sort) o2 (by omega)).mono ?_;rw[Ov]
   cases d2:Ot (so:Nat) (Ou (Oh (Og S)) t.sort).kind
   ·have G:Hid (O=false):=by unfold Hid;rw[h0.o,d2];rfl
    clear d2;rintro e w4 ⟨rfl,f0⟩;have l4:=Hd ((f0.after E.o).more (m':=60) (by omega));clear f0
    go_wp2
    go_ret
    exact⟨Oz G.o.symm,l4.o⟩
   have h4:Hid (O=(Gh t&&O6 (Ou (Oh (Og S))) num F (Ox F) T t&&(List.range t.kids.length).all (fun p=>V9 (Ou (Oh (Og S))) F (Ox F) T t (Rule.role ⟨la,le,mo,so,r0,r1,r2⟩ p) p))):=by unfold Hid;rw[h0.o,d2,Yz]
   have l9:Hid (t.op=12->(Ou (Oh (Og S)) t.sort).kind=2∨(Ou (Oh (Og S)) t.sort).kind=3):=fun h12=>by
    have b1:=e8.o;rw[h12]at b1;have m7:so=11:=by cases b1;rfl
    rw[m7]at d2
    simpa[Ot]using d2
   clear d2 h0;rintro e w4 ⟨rfl,f0⟩;obtain⟨n4,g4,h8,g0,b9⟩:=f0;have d6:=Hd g0;have d4:=Hd b9;obtain⟨t0,t1,t2,t3,t4,t5,c4,c5,c6⟩:=a1.o w4 b9;clear g0 b9
   go_wp2_with fail
   refine(Ln t (.slice qk t.kids.length dk) w4).mono ?_
   cases f5:Gh t
   ·have G:Hid (O=false):=by unfold Hid;rw[h4.o,f5];rfl
    clear f5;rintro e w5 ⟨rfl,d1⟩;have l5:Hid (Ow w w5 kb sb fb gb n S F T vS vF (.slice pt T.length ct) v5 60):=(Ow.comp (m:=0) h8 ((Bar.of E.o).trans d4.o) (Ow.of d6.o d1 0)).more (by omega);clear d1
    go_wp2
    go_ret
    exact⟨Oz G.o.symm,l5.o⟩
   have h5:Hid (O=(O6 (Ou (Oh (Og S))) num F (Ox F) T t&&(List.range t.kids.length).all (fun p=>V9 (Ou (Oh (Og S))) F (Ox F) T t (Rule.role ⟨la,le,mo,so,r0,r1,r2⟩ p) p))):=by unfold Hid;rw[h4.o,f5,Yz]
   clear f5 h4;rintro e w5 ⟨rfl,d1⟩;have V:Hid (Bar gb W3 w5):=d4.o.trans (Bar.of d1);have i7:=Hd (d6.o.next d1);obtain⟨t0,t1,t2,t3,t4,t5,c4,c5,c6⟩:=a1.o w5 V.o;clear d1 d6
   go_wp2_with fail
   refine(Bc i7.o t (.slice qk t.kids.length dk) ((HI.o.bl E.o).keep (V.o.keep (HH.o.next E.o).km)) g5.o num hT (by omega) hF HZ.o hts htx (by omega) (by rw[<-(ZS e8.o).1];exact l0) (fun h12 W hW=>j0.o h12 (l9.o h12) W ((Bar.of E.o).trans (V.o.trans hW)))).mono ?_
   cases b4:O6 (Ou (Oh (Og S))) num F (Ox F) T t
   ·have G:Hid (O=false):=by unfold Hid;rw[h5.o,b4];rfl
    clear b4;rintro e w6 ⟨rfl,f1⟩;have l6:Hid (Ow w w6 kb sb fb gb n S F T vS vF (.slice pt T.length ct) v5 60):=(Ow.comp h8 ((Bar.of E.o).trans V.o) f1).more (by omega);clear f1
    go_wp2
    go_ret
    exact⟨Oz G.o.symm,l6.o⟩
   have j4:Hid (O=(List.range t.kids.length).all (fun p=>V9 (Ou (Oh (Og S))) F (Ox F) T t (Rule.role ⟨la,le,mo,so,r0,r1,r2⟩ p) p)):=by unfold Hid;rw[h5.o,b4,Yz]
   have l8:Hid (∀p,Rule.role ⟨la,le,mo,so,r0,r1,r2⟩ p=14->Nx F (Ox F) t=true):=fun p hp=>by
    have m8:=CK e8.o p hp;unfold O6 at b4;simp only at b4;rw[if_pos m8]at b4;exact b4
   clear b4 h5;rintro e w6 ⟨rfl,f1⟩;obtain⟨n6,g6,n0,g1,e5⟩:=f1;have m0:Hid (n6<=n+4):=by unfold Hid;omega
   have i8:=Hd g1;have d5:Hid (Bar gb W3 w6):=V.o.trans e5;obtain⟨t0,t1,t2,t3,t4,t5,c4,c5,c6⟩:=a1.o w6 d5.o;clear g1 e5 n0 h8;have d8:Hid (∀i (hi:i<t.kids.length) W n' gg,BK W kb sb fb gb n' S F T vS vF (.slice pt T.length ct) v5 gg->n'<=1000000000->Bar gb W3 W->Calls prog 127 #[.pointer (some ⟨kb,0,none⟩),.int .u8 ((Rule.role ⟨la,le,mo,so,r0,r1,r2⟩ i:Nat):Int),.agg #[.int .i64 t.op,.string (Oo t.sort),.string (Oo t.text),.int .i64 t.a,.int .i64 t.b,.slice qk t.kids.length dk],.int .i64 (i:Nat)] W fun e w'=>e=.returned (.bool (V9 (Ou (Oh (Og S))) F (Ox F) T t (Rule.role ⟨la,le,mo,so,r0,r1,r2⟩ i) i))/\Ow W w' kb sb fb gb n' S F T vS vF (.slice pt T.length ct) v5 1):=fun i hi W n' gg hb hn' hbar=>
    S8 hb t _ ((HI.o.bl E.o).keep (hbar.keep (HH.o.next E.o).km)) g5.o _ i (ZC e8.o i) hi hT (by omega) hF HZ.o htx hn' (l8.o i)
   go_wp2_with fail
   clear t0 t1 t2 t3 t4 t5 c4 c5 c6
   go_loopw [77] (fun i wr=>∃k:Nat,k<=t.kids.length/\i=.int .i64 (k:Nat)/\(∀j,j<k->V9 (Ou (Oh (Og S))) F (Ox F) T t (Rule.role ⟨la,le,mo,so,r0,r1,r2⟩ j) j=true)/\∃nr gr,nr<=n+4+k/\BK wr kb sb fb gb nr S F T vS vF (.slice pt T.length ct) v5 gr/\Bar gb W3 wr) (fun i _=>t.kids.length - (intOf i).toNat)
   case atStart=>exact⟨0,Jp _,rfl,fun j h=>absurd h (Jz _),n6,g6,by have:=m0.o;omega,i8.o,d5.o⟩
   obtain⟨k,hk,rfl,k7,nr,gr,k1,g2,c8⟩:=hrel;have j1:=Hd k7;have a8:=Hd k1;have Y:=Hd g2;have q:=Hd c8;have q0:=a1.o wr c8;clear k7 k1 g2 c8
   by_cases Z:k<t.kids.length
   ·have g8:Hid (V9 (Ou (Oh (Og S))) F (Ox F) T t (Rule.role ⟨la,le,mo,so,r0,r1,r2⟩ k) k=false->O=false):=fun h=>by
     rw[j4.o,Yb];intro h2;have:=Jx.1 h2 k (Yg.2 Z);rw[h]at this
     cases this
    have e1:Hid (V9 (Ou (Oh (Og S))) F (Ox F) T t (Rule.role ⟨la,le,mo,so,r0,r1,r2⟩ k) k=true->∀j,j<k+1->V9 (Ou (Oh (Og S))) F (Ox F) T t (Rule.role ⟨la,le,mo,so,r0,r1,r2⟩ j) j=true):=fun h j h2=>by
     rcases J4.1 h2 with h3|rfl
     ·exact j1.o j h3
     exact h
    have d7:Hid (∀W,Ow wr W kb sb fb gb nr S F T vS vF (.slice pt T.length ct) v5 1->Ow w W kb sb fb gb n S F T vS vF (.slice pt T.length ct) v5 60):=fun W ha=>(Ow.comp (m2:=4+k) (by have:=a8.o;omega) ((Bar.of E.o).trans q.o) ha).more (by omega);have b8:Hid (∀W,Ow wr W kb sb fb gb nr S F T vS vF (.slice pt T.length ct) v5 1->∃nr gr,nr<=n+4+(k+1)/\BK W kb sb fb gb nr S F T vS vF (.slice pt T.length ct) v5 gr/\Bar gb W3 W):=fun W ha=>by
     obtain⟨n',g',h1,h2,h3⟩:=ha;have:=a8.o;exact⟨n',g',by omega,h2,q.o.trans h3⟩
    have i1:(k:Int)<(t.kids.length:Int):=by omega
    rcases(show k=0∨k=1∨2<=k by omega)with rfl|rfl|q1
    ·have q3:min (0:Int) 2=0:=rfl
     cases hv:V9 (Ou (Oh (Og S))) F (Ox F) T t (Rule.role ⟨la,le,mo,so,r0,r1,r2⟩ 0) 0
     ·have HV:=Hd hv;have G:=Hd (g8.o hv);clear hv
      go_wp2
      go_region_held3 (fun W=>W.cell? ⟨w.heap.size,0,none⟩=some (.int .i64 t.op)/\W.cell? ⟨w.heap.size,1,none⟩=some (.string (Oo t.sort))/\W.cell? ⟨w.heap.size,2,none⟩=some (.string (Oo t.text))/\W.cell? ⟨w.heap.size,3,none⟩=some (.int .i64 t.a)/\W.cell? ⟨w.heap.size,4,none⟩=some (.int .i64 t.b)/\W.cell? ⟨w.heap.size,5,none⟩=some (.slice qk t.kids.length dk)/\W.cell? ⟨R.heap.size,4,none⟩=some (.int .u8 (r0:Nat))/\W.cell? ⟨R.heap.size,5,none⟩=some (.int .u8 (r1:Nat))/\W.cell? ⟨R.heap.size,6,none⟩=some (.int .u8 (r2:Nat))) (first
       | assumption|go_keep) (first
       | (go_at_call 127;refine(d8.o 0 Z wr.drew nr _ (Y.o.next (Ji _ _).drew) (by have:=a8.o;omega) (q.o.then (Ji _ _).drew)).mono ?_;rw[HV.o];rintro e w9 ⟨rfl,K⟩;have J:Hid (Ow wr w9 kb sb fb gb nr S F T vS vF (.slice pt T.length ct) v5 1):=Ow.after K (Ji _ _).drew;have e4:=a1.o w9 (by obtain⟨n7,g7,-,-,h7⟩:=J.o;exact q.o.trans h7);clear K))
      all_goals (go_wp2;go_ret;exact⟨Oz G.o.symm,d7.o _ J.o⟩)
     have HV:=Hd hv;have HR:=Hd (e1.o hv);clear hv
     go_wp2
     go_region_held3 (fun W=>W.cell? ⟨w.heap.size,0,none⟩=some (.int .i64 t.op)/\W.cell? ⟨w.heap.size,1,none⟩=some (.string (Oo t.sort))/\W.cell? ⟨w.heap.size,2,none⟩=some (.string (Oo t.text))/\W.cell? ⟨w.heap.size,3,none⟩=some (.int .i64 t.a)/\W.cell? ⟨w.heap.size,4,none⟩=some (.int .i64 t.b)/\W.cell? ⟨w.heap.size,5,none⟩=some (.slice qk t.kids.length dk)/\W.cell? ⟨R.heap.size,4,none⟩=some (.int .u8 (r0:Nat))/\W.cell? ⟨R.heap.size,5,none⟩=some (.int .u8 (r1:Nat))/\W.cell? ⟨R.heap.size,6,none⟩=some (.int .u8 (r2:Nat))) (first
      | assumption|go_keep) (first
      | (go_at_call 127;refine(d8.o 0 Z wr.drew nr _ (Y.o.next (Ji _ _).drew) (by have:=a8.o;omega) (q.o.then (Ji _ _).drew)).mono ?_;rw[HV.o];rintro e w9 ⟨rfl,K⟩;have J:Hid (Ow wr w9 kb sb fb gb nr S F T vS vF (.slice pt T.length ct) v5 1):=Ow.after K (Ji _ _).drew;have e4:=a1.o w9 (by obtain⟨n7,g7,-,-,h7⟩:=J.o;exact q.o.trans h7);clear K))
     all_goals (go_wp2;go_roundw)
     all_goals (try (case rel=>exact⟨0+1,by omega,by go_num,HR.o,b8.o _ J.o⟩))
     all_goals (try (case measure=>simp[intOf];omega))
    ·have q4:min (1:Int) 2=1:=rfl
     cases hv:V9 (Ou (Oh (Og S))) F (Ox F) T t (Rule.role ⟨la,le,mo,so,r0,r1,r2⟩ 1) 1
     ·have HV:=Hd hv;have G:=Hd (g8.o hv);clear hv
      go_wp2
      go_region_held3 (fun W=>W.cell? ⟨w.heap.size,0,none⟩=some (.int .i64 t.op)/\W.cell? ⟨w.heap.size,1,none⟩=some (.string (Oo t.sort))/\W.cell? ⟨w.heap.size,2,none⟩=some (.string (Oo t.text))/\W.cell? ⟨w.heap.size,3,none⟩=some (.int .i64 t.a)/\W.cell? ⟨w.heap.size,4,none⟩=some (.int .i64 t.b)/\W.cell? ⟨w.heap.size,5,none⟩=some (.slice qk t.kids.length dk)/\W.cell? ⟨R.heap.size,4,none⟩=some (.int .u8 (r0:Nat))/\W.cell? ⟨R.heap.size,5,none⟩=some (.int .u8 (r1:Nat))/\W.cell? ⟨R.heap.size,6,none⟩=some (.int .u8 (r2:Nat))) (first
       | assumption|go_keep) (first
       | (go_at_call 127;refine(d8.o 1 Z wr.drew nr _ (Y.o.next (Ji _ _).drew) (by have:=a8.o;omega) (q.o.then (Ji _ _).drew)).mono ?_;rw[HV.o];rintro e w9 ⟨rfl,K⟩;have J:Hid (Ow wr w9 kb sb fb gb nr S F T vS vF (.slice pt T.length ct) v5 1):=Ow.after K (Ji _ _).drew;have e4:=a1.o w9 (by obtain⟨n7,g7,-,-,h7⟩:=J.o;exact q.o.trans h7);clear K))
      all_goals (go_wp2;go_ret;exact⟨Oz G.o.symm,d7.o _ J.o⟩)
     have HV:=Hd hv;have HR:=Hd (e1.o hv);clear hv
     go_wp2
     go_region_held3 (fun W=>W.cell? ⟨w.heap.size,0,none⟩=some (.int .i64 t.op)/\W.cell? ⟨w.heap.size,1,none⟩=some (.string (Oo t.sort))/\W.cell? ⟨w.heap.size,2,none⟩=some (.string (Oo t.text))/\W.cell? ⟨w.heap.size,3,none⟩=some (.int .i64 t.a)/\W.cell? ⟨w.heap.size,4,none⟩=some (.int .i64 t.b)/\W.cell? ⟨w.heap.size,5,none⟩=some (.slice qk t.kids.length dk)/\W.cell? ⟨R.heap.size,4,none⟩=some (.int .u8 (r0:Nat))/\W.cell? ⟨R.heap.size,5,none⟩=some (.int .u8 (r1:Nat))/\W.cell? ⟨R.heap.size,6,none⟩=some (.int .u8 (r2:Nat))) (first
      | assumption|go_keep) (first
      | (go_at_call 127;refine(d8.o 1 Z wr.drew nr _ (Y.o.next (Ji _ _).drew) (by have:=a8.o;omega) (q.o.then (Ji _ _).drew)).mono ?_;rw[HV.o];rintro e w9 ⟨rfl,K⟩;have J:Hid (Ow wr w9 kb sb fb gb nr S F T vS vF (.slice pt T.length ct) v5 1):=Ow.after K (Ji _ _).drew;have e4:=a1.o w9 (by obtain⟨n7,g7,-,-,h7⟩:=J.o;exact q.o.trans h7);clear K))
     all_goals (go_wp2;go_roundw)
     all_goals (try (case rel=>exact⟨1+1,by omega,by go_num,HR.o,b8.o _ J.o⟩))
     all_goals (try (case measure=>simp[intOf];omega))
    have q5:min (k:Int) 2=2:=by omega
    have k8:Rule.role ⟨la,le,mo,so,r0,r1,r2⟩ k=r2:=by unfold Rule.role;rw[if_neg (by omega),if_neg (by omega)]
    have m5:=Hd k8;have f8:Hid (∀W n' gg,BK W kb sb fb gb n' S F T vS vF (.slice pt T.length ct) v5 gg->n'<=1000000000->Bar gb W3 W->Calls prog 127 #[.pointer (some ⟨kb,0,none⟩),.int .u8 (r2:Nat),.agg #[.int .i64 t.op,.string (Oo t.sort),.string (Oo t.text),.int .i64 t.a,.int .i64 t.b,.slice qk t.kids.length dk],.int .i64 (k:Nat)] W fun e w'=>e=.returned (.bool (V9 (Ou (Oh (Og S))) F (Ox F) T t (Rule.role ⟨la,le,mo,so,r0,r1,r2⟩ k) k))/\Ow W w' kb sb fb gb n' S F T vS vF (.slice pt T.length ct) v5 1):=fun W n' gg h1 h2 h3=>by
     have h:=d8.o k Z W n' gg h1 h2 h3;rw[m5.o]at h ⊢;exact h
    clear k8
    cases hv:V9 (Ou (Oh (Og S))) F (Ox F) T t (Rule.role ⟨la,le,mo,so,r0,r1,r2⟩ k) k
    ·have HV:=Hd hv;have G:=Hd (g8.o hv);clear hv
     go_wp2
     go_region_held3 (fun W=>W.cell? ⟨w.heap.size,0,none⟩=some (.int .i64 t.op)/\W.cell? ⟨w.heap.size,1,none⟩=some (.string (Oo t.sort))/\W.cell? ⟨w.heap.size,2,none⟩=some (.string (Oo t.text))/\W.cell? ⟨w.heap.size,3,none⟩=some (.int .i64 t.a)/\W.cell? ⟨w.heap.size,4,none⟩=some (.int .i64 t.b)/\W.cell? ⟨w.heap.size,5,none⟩=some (.slice qk t.kids.length dk)/\W.cell? ⟨R.heap.size,4,none⟩=some (.int .u8 (r0:Nat))/\W.cell? ⟨R.heap.size,5,none⟩=some (.int .u8 (r1:Nat))/\W.cell? ⟨R.heap.size,6,none⟩=some (.int .u8 (r2:Nat))) (first
      | assumption|go_keep) (first
      | (go_at_call 127;refine(f8.o wr.drew nr _ (Y.o.next (Ji _ _).drew) (by have:=a8.o;omega) (q.o.then (Ji _ _).drew)).mono ?_;rw[HV.o];rintro e w9 ⟨rfl,K⟩;have J:Hid (Ow wr w9 kb sb fb gb nr S F T vS vF (.slice pt T.length ct) v5 1):=Ow.after K (Ji _ _).drew;have e4:=a1.o w9 (by obtain⟨n7,g7,-,-,h7⟩:=J.o;exact q.o.trans h7);clear K))
     all_goals (go_wp2;go_ret;exact⟨Oz G.o.symm,d7.o _ J.o⟩)
    have HV:=Hd hv;have HR:=Hd (e1.o hv);clear hv
    go_wp2
    go_region_held3 (fun W=>W.cell? ⟨w.heap.size,0,none⟩=some (.int .i64 t.op)/\W.cell? ⟨w.heap.size,1,none⟩=some (.string (Oo t.sort))/\W.cell? ⟨w.heap.size,2,none⟩=some (.string (Oo t.text))/\W.cell? ⟨w.heap.size,3,none⟩=some (.int .i64 t.a)/\W.cell? ⟨w.heap.size,4,none⟩=some (.int .i64 t.b)/\W.cell? ⟨w.heap.size,5,none⟩=some (.slice qk t.kids.length dk)/\W.cell? ⟨R.heap.size,4,none⟩=some (.int .u8 (r0:Nat))/\W.cell? ⟨R.heap.size,5,none⟩=some (.int .u8 (r1:Nat))/\W.cell? ⟨R.heap.size,6,none⟩=some (.int .u8 (r2:Nat))) (first
     | assumption|go_keep) (first
     | (go_at_call 127;refine(f8.o wr.drew nr _ (Y.o.next (Ji _ _).drew) (by have:=a8.o;omega) (q.o.then (Ji _ _).drew)).mono ?_;rw[HV.o];rintro e w9 ⟨rfl,K⟩;have J:Hid (Ow wr w9 kb sb fb gb nr S F T vS vF (.slice pt T.length ct) v5 1):=Ow.after K (Ji _ _).drew;have e4:=a1.o w9 (by obtain⟨n7,g7,-,-,h7⟩:=J.o;exact q.o.trans h7);clear K))
    all_goals (go_wp2;go_roundw)
    all_goals (try (case rel=>exact⟨k+1,by omega,by go_num,HR.o,b8.o _ J.o⟩))
    all_goals (try (case measure=>simp[intOf];omega))
   have G:Hid (O=true):=by
    unfold Hid;rw[j4.o,Jx];intro p hp;have:=Yg.1 hp;exact j1.o p (by omega)
   have HA:Hid (Ow w wr kb sb fb gb n S F T vS vF (.slice pt T.length ct) v5 60):=⟨nr,gr,by have:=a8.o;omega,Y.o,(Bar.of E.o).trans q.o⟩;have z5:¬ (k:Int)<(t.kids.length:Int):=by omega
   go_wp2
   go_ret
   exact⟨Oz G.o.symm,HA.o⟩
def U3(ks:List Int):List UInt8:=ks.flatMap (fun x=>[UInt8.ofNat (x.toNat / 256),UInt8.ofNat x.toNat])
def Qr(l:List UInt8):List Value:=l.map (fun c=>.int .u8 (c.toNat:Nat))
theorem YR{ks:List Int}{k:Nat}(h:k<ks.length):U3 (ks.take (k+1))=U3 (ks.take k)++[UInt8.ofNat (ks[k].toNat / 256),UInt8.ofNat ks[k].toNat]:=by
 unfold U3;rw[Yl h,Yx];simp
theorem Mh(ks:List Int):(U3 ks).length=2*ks.length:=by
 induction ks with
 | nil=>rfl
 | cons x r ih=>unfold U3 at ih ⊢;simp only[Zs,Jq,Yo,Zp,ih];omega
theorem Co:(prog.info? 5).map (fun i=>(i.zero,i.size,i.bytes))=some (some (.int .u8 0),1,1):=by kernel_rfl
theorem Aq(N m y:Nat)(xs:List Value)(w:World)(h:w.ownsRow N 5 1 (.slice (some ⟨N,0,none⟩) m 100) m xs)(hm:m+2<=100) :
 Calls prog 59 #[.slice (some ⟨N,0,none⟩) m 100,.int .i64 (y:Nat)] w fun e w'=>e=.returned (.slice (some ⟨N,0,none⟩) (m+2) 100)/\w'.ownsRow N 5 1 (.slice (some ⟨N,0,none⟩) (m+2) 100) (m+2) (xs++[.int .u8 ((y:Int) / 256 % 256),.int .u8 ((y:Int) % 256)])/\∃o,(w.alloc o).grownBy w' (some N):=by
 obtain⟨i0,E,V,O,Y⟩:=info_parts Co;have G:Hid ((w.alloc (.cells #[.int .u8 ((y:Int) / 256 % 256),.int .u8 ((y:Int) % 256)] 5)).ownsRow N 5 1 (.slice (some ⟨N,0,none⟩) m 100) m xs):=h.alloc _;clear h
 go_in
 go_wp2_with (at_builtin;refine wpList_append_fits _ rfl _ _ 22 rfl N 5 i0 1 underlying22 E O N m 100 _ rfl G.o ⟨w.heap.size,0,none⟩ 2 2 [.int .u8 ((y:Int) / 256 % 256),.int .u8 ((y:Int) % 256)] rfl rfl ?c0 ?c1 ?c2 ?_)
 case c0=>exact World.news_of_block (cs:=#[.int .u8 ((y:Int) / 256 % 256),.int .u8 ((y:Int) % 256)]) (t:=5) (fr:=(0,0)) (heap_alloc_new w _)
 case c1=>intro u R;simp at R;rcases R with rfl|rfl<;>rfl
 case c2=>omega
 intro w5 j q;have K:=Hd j;have J:=Hd q;clear j q
 go_wp2
 go_ret
 exact⟨rfl,K.o,_,J.o⟩
theorem Mk(t:Tm)(vk:Value)(w:World)(hk:IntsAt w vk t.kids)(hr:∀x∈t.kids,0<=x/\x<65536)(hl:t.kids.length<=50) :
 Calls prog 104 #[G6 t vk] w fun e w'=>e=.returned (.agg #[.int .i64 t.op,.string (Oo t.sort),.string (Oo t.text),.int .i64 t.a,.int .i64 t.b,.string (Oo (U3 t.kids))])/\Up w w':=by
 obtain⟨qk,dk,rfl,h7,g1,d1⟩:=hk;have HK:=Hd d1;have HR:=Hd hr;unfold maxLen at g1;obtain⟨i0,c6,f8,f9,g0⟩:=info_parts Co;clear d1 hr;unfold G6
 go_in
 go_wp2_with (at_make;refine wpList_make_own _ rfl _ _ 22 rfl (w.heap.size+2) 5 i0 (.int .u8 0) 1 underlying22 c6 f8 f9 .i64 .i64 _ 100 rfl rfl ?m1 ?m2 ?m3 ?m4 ?_)
 case m1=>decide
 case m2=>rw[g0];decide
 case m3=>unfold maxLen;decide
 case m4=>simp
 intro w2 K q;have b1:Hid (Up w ((w.alloc (.cells #[.int .i64 t.op,.string (Oo t.sort),.string (Oo t.text),.int .i64 t.a,.int .i64 t.b,.slice qk t.kids.length dk] 38)).alloc (.cells #[.int .i64 0,.string ⟨#[]⟩,.string ⟨#[]⟩,.int .i64 0,.int .i64 0,.string ⟨#[]⟩] 110))):=((Ji _ _).alloc leR _).alloc (by rw[Ju];omega) _;have R:Hid (Below (w.heap.size+2) ((w.alloc (.cells #[.int .i64 t.op,.string (Oo t.sort),.string (Oo t.text),.int .i64 t.a,.int .i64 t.b,.slice qk t.kids.length dk] 38)).alloc (.cells #[.int .i64 0,.string ⟨#[]⟩,.string ⟨#[]⟩,.int .i64 0,.int .i64 0,.string ⟨#[]⟩] 110)) w2):=⟨q.os,q.tape,q.output,q.size,fun k hk=>q.block k (by simp;omega) (fun e=>by cases e)⟩;have b7:Hid (Bx w2 w.heap.size [.int .i64 t.op,.string (Oo t.sort),.string (Oo t.text),.int .i64 t.a,.int .i64 t.b,.slice qk t.kids.length dk]):=((Oq w _ _).alloc _).bl (N:=w.heap.size+2) (by omega) R.o;have d9:Hid (Bx w2 (w.heap.size+1) [.int .i64 0,.string ⟨#[]⟩,.string ⟨#[]⟩,.int .i64 0,.int .i64 0,.string ⟨#[]⟩]):=by
  have h:=Oq (w.alloc (.cells #[.int .i64 t.op,.string (Oo t.sort),.string (Oo t.text),.int .i64 t.a,.int .i64 t.b,.slice qk t.kids.length dk] 38)) [.int .i64 0,.string ⟨#[]⟩,.string ⟨#[]⟩,.int .i64 0,.int .i64 0,.string ⟨#[]⟩] 110;rw[Ju]at h;exact h.bl (N:=w.heap.size+2) (by omega) R.o
 have d6:Hid (Up w w2):=b1.o.trans (R.o.mono (by omega));have b5:Hid (w.heap.size+2<=w2.heap.size):=by have:=q.size;simp at this;unfold Hid;omega
 have b3:=Hd K;clear K q b1;obtain⟨N,hN⟩:=O2 (w.heap.size+2);have b8:w.heap.size+1+1=N:=by omega
 rw[hN]at b3 b5 R;rw[b8];have HN:=Hd hN;have t5:=b7.o.cell 5;simp only[Jr,Jy]at t5;clear hN b8
 go_wp2_with fail
 clear t5
 go_loopw [3,10] (fun v i wr=>∃k:Nat,k<=t.kids.length/\i=.int .i64 (k:Nat)/\v=.slice (some ⟨N,0,none⟩) (2*k) 100/\wr.ownsRow N 5 1 (.slice (some ⟨N,0,none⟩) (2*k) 100) (2*k) (Qr (U3 (t.kids.take k)))/\Below N w2 wr) (fun _ i _=>t.kids.length - (intOf i).toNat)
 case atStart=>exact⟨0,Jp _,rfl,rfl,b3.o,Ji _ _⟩
 obtain⟨k,hk,rfl,rfl,a1,a7⟩:=hrel;have E:=Hd a1;have V:=Hd a7;have b2:Hid (Up w wr):=d6.o.trans (a7.mono (by have:=HN.o;omega));clear a1 a7
 by_cases J:k<t.kids.length
 ·rcases HK.o with e0|⟨bq,rfl,e8,b9⟩
  ·rw[e0]at J;cases J
  have cx:=(b2.o.cell (p:=⟨bq,k,none⟩) e8).trans (b9 k J);clear b9;have hx:=HR.o _ (Jj J);have b4:=Hd (YR J);obtain⟨y,hy⟩:∃y:Nat,t.kids[k]=(y:Int):=⟨t.kids[k].toNat,by omega⟩;rw[hy]at cx hx b4;clear hy;have e6:=Hd hx;clear hx;have h5:(0:Int)<=(k:Int):=by omega
  have i1:(k:Int)<(t.kids.length:Int):=by omega
  have b6:=Hd (Aq N (2*k) y _ wr E.o (by omega))
  go_wp2_with fail
  refine b6.o.mono ?_;rintro e w5 ⟨rfl,O,o5,Z⟩;have d5:Hid (Below N w2 w5):=Xg V.o E.o Z (by have:=V.o.size;have:=b5.o;omega);have d8:Hid (w5.ownsRow N 5 1 (.slice (some ⟨N,0,none⟩) (2*(k+1)) 100) (2*(k+1)) (Qr (U3 (t.kids.take (k+1))))):=by
   have hb:=e6.o;unfold Hid;rw[b4.o];have e:Qr (U3 (t.kids.take k)++[UInt8.ofNat ((y:Int).toNat / 256),UInt8.ofNat (y:Int).toNat])=Qr (U3 (t.kids.take k))++[.int .u8 ((y:Int) / 256 % 256),.int .u8 ((y:Int) % 256)]:=by
    unfold Qr;rw[Yk];simp only[Za,Zq,Y7,UInt8.toNat_ofNat']
    congr 2
   rw[e];exact O
  clear O Z b6
  go_wp2
  go_roundw
  case rel=>exact⟨k+1,by omega,by go_num,rfl,d8.o,d5.o⟩
  simp[intOf];omega
 obtain rfl:k=t.kids.length:=by omega
 have a8:(convert 22 9 (.slice (some ⟨N,0,none⟩) (2*t.kids.length) 100)).run prog wr=.ok (.string (Oo (U3 t.kids))) wr:=by
  have h:=E.o;rw[Y1]at h;have e9:=Mh t.kids;have:=run_convert_bytes_back (P:=prog) wr 22 9 5 ⟨N,0,none⟩ 100 (U3 t.kids) underlying22 underlying5 underlying9 (fun j hj=>by
   have:=h.cells (g:=N) rfl j (.int .u8 ((U3 t.kids)[j].toNat:Nat)) (by simp[Qr,List.getElem?_eq_getElem hj]);exact this)
  rw[e9]at this;exact this
 have c8:=b7.o.bl (N:=N) (by have:=HN.o;omega) V.o;have Y:=d9.o.bl (N:=N) (by have:=HN.o;omega) V.o;obtain⟨t0,t1,t2,t3,t4⟩:=c8.k5;obtain⟨r0,r1,r2,r3,r4,r5⟩:=Y.k6;obtain⟨f0,f1,f2,f3,f4,f5⟩:=Y.f6;have d0:=(((((Y.set 0 (.int .i64 t.op)).set 1 (.string (Oo t.sort))).set 2 (.string (Oo t.text))).set 3 (.int .i64 t.a)).set 4 (.int .i64 t.b)).set 5 (.string (Oo (U3 t.kids)));have G:=Hd d0;have hq:w.heap.size<=w.heap.size+1:=by omega
 clear c8 Y d0 E
 go_wp2_with fail
 have e0:=G.o.cell 0;have e1:=G.o.cell 1;have e2:=G.o.cell 2;have e3:=G.o.cell 3;have e4:=G.o.cell 4;have e5:=G.o.cell 5;simp only[Je,Jf,Jr,Jy]at e0 e1 e2 e3 e4 e5;refine Jl (v:=.agg #[.int .i64 t.op,.string (Oo t.sort),.string (Oo t.text),.int .i64 t.a,.int .i64 t.b,.string (Oo (U3 t.kids))]) ?_ rfl ⟨rfl,(((((b2.o.setCell (p:=⟨w.heap.size+1,0,none⟩) hq _).setCell (p:=⟨w.heap.size+1,1,none⟩) hq _).setCell (p:=⟨w.heap.size+1,2,none⟩) hq _).setCell (p:=⟨w.heap.size+1,3,none⟩) hq _).setCell (p:=⟨w.heap.size+1,4,none⟩) hq _).setCell (p:=⟨w.heap.size+1,5,none⟩) hq _⟩;clear t0 t1 t2 t3 t4 r0 r1 r2 r3 r4 r5 f0 f1 f2 f3 f4 f5 a8;simp[results,results104,go_sem,e0,e1,e2,e3,e4,e5]
def Uq(ks:List Int):List Value:=ks.map (Value.int .i64)
theorem OK(vk:Value)(ks:List Int)(w:World)(hk:IntsAt w vk ks)(hl:ks.length<=1000000) :
 Calls prog 128 #[vk] w fun e w'=>∃v',e=.returned v'/\w'.ownsRow w.heap.size 3 1 v' ks.length (Uq ks)/\Up w w':=by
 obtain⟨p,c,rfl,G,J,q⟩:=hk
 rcases q with rfl|⟨b,rfl,hb,E⟩
 ·cases p with
  | none=>
    refine(Tryz.slices_Clone_int_nil 0 c w).mono ?_;rintro e w' ⟨rfl,rfl⟩;exact⟨_,rfl,⟨rfl,.inl ⟨rfl,rfl⟩⟩,Ji _ _⟩
  | some a=>
    refine(Tryz.slices_Clone_int_zero a c w).mono ?_;rintro e w' ⟨v',rfl,h,-,hb⟩;exact⟨v',rfl,h,hb⟩
 refine(Tryz.slices_Clone_int b 0 ks.length c ks w leR (by omega) (fun j hj=>?_)).mono ?_
 ·rw[Nat.zero_add,E j hj];simp[List.getD,List.getElem?_eq_getElem hj]
 rintro e w' ⟨v',rfl,h,-,hb⟩;rw[Y1]at h;exact⟨v',rfl,h,hb⟩
theorem own_lower{base base':Nat}{e:TypeId}{size:Nat}{v:Value}{xs:List Value}(h:w.ownsRow base e size v n xs)(hb:base'<=base):w.ownsRow base' e size v n xs:=by
 refine⟨h.1,?_⟩
 rcases h.2 with q|⟨g,j,cur,e,G,E⟩
 ·exact .inl q
 exact .inr ⟨g,j,cur,e,Jm hb G,E⟩
theorem Bh(t:Tm)(vk:Value)(w:World)(hk:IntsAt w vk t.kids)(hl:t.kids.length<=1000000)(hts:t.sort.length<=1048576)(htx:t.text.length<=1048576) :
 Calls prog 105 #[G6 t vk] w fun e w'=>∃p n c,e=.returned (G6 t (.slice p n c))/\w'.ownsRow w.heap.size 3 1 (.slice p n c) t.kids.length (Uq t.kids)/\Up w w':=by
 have HI:=Hd hk;obtain⟨qk,dk,rfl,d9,e6,-⟩:=hk;clear d9 e6;have d7:(Oo t.sort).size<=1048576:=by show t.sort.toArray.size<=_;simpa using hts
 have d8:(Oo t.text).size<=1048576:=by show t.text.toArray.size<=_;simpa using htx
 unfold G6
 go_in
 go_wp2_with fail
 obtain⟨W1,K⟩:=O2 ((w.alloc (.cells #[.int .i64 t.op,.string (Oo t.sort),.string (Oo t.text),.int .i64 t.a,.int .i64 t.b,.slice qk t.kids.length dk] 38)).alloc (.cells #[.int .i64 0,.string ⟨#[]⟩,.string ⟨#[]⟩,.int .i64 0,.int .i64 0,.slice none 0 0] 38));have b1:Hid (Up w W1):=by unfold Hid;rw[<-K];exact((Ji _ _).alloc leR _).alloc (by rw[Ju];omega) _
 have b5:Hid (W1.heap.size=w.heap.size+2):=by unfold Hid;rw[<-K];simp
 have q:Hid (Bx W1 w.heap.size [.int .i64 t.op,.string (Oo t.sort),.string (Oo t.text),.int .i64 t.a,.int .i64 t.b,.slice qk t.kids.length dk]):=by unfold Hid;rw[<-K];exact(Oq w _ _).alloc _
 have E:Hid (Bx W1 (w.heap.size+1) [.int .i64 0,.string ⟨#[]⟩,.string ⟨#[]⟩,.int .i64 0,.int .i64 0,.slice none 0 0]):=by unfold Hid;rw[<-K];have h:=Oq (w.alloc (.cells #[.int .i64 t.op,.string (Oo t.sort),.string (Oo t.text),.int .i64 t.a,.int .i64 t.b,.slice qk t.kids.length dk] 38)) [.int .i64 0,.string ⟨#[]⟩,.string ⟨#[]⟩,.int .i64 0,.int .i64 0,.slice none 0 0] 38;rw[Ju]at h;exact h
 rw[K];clear K;refine(Eh (Oo t.sort) _ d7).mono ?_;rintro e w2 ⟨rfl,hb2⟩;have j:=Hd (q.o.bl q.o.lt hb2);have G:=Hd (E.o.bl E.o.lt hb2);have b2:=b1.up hb2;have d4:Hid (w.heap.size+2<=w2.heap.size):=by have:=hb2.size;have:=b5.o;unfold Hid;omega
 clear hb2 q E b1 b5;have a1:=j.o.cell 1;have a2:=j.o.cell 2;simp only[Jr,Jy]at a1 a2;have f1:=j.o.fz 1;have l0:w.heap.size≠w.heap.size+1:=by omega
 go_wp2_with fail
 have q:Hid (Bx (w2.setCell ⟨w.heap.size,1,none⟩ (.string (Oo t.sort))) w.heap.size [.int .i64 t.op,.string (Oo t.sort),.string (Oo t.text),.int .i64 t.a,.int .i64 t.b,.slice qk t.kids.length dk]):=j.o.set 1 _;have E:=Hd (G.o.other ⟨w.heap.size,1,none⟩ (by simp) (.string (Oo t.sort)));have Y:Hid (Up w (w2.setCell ⟨w.heap.size,1,none⟩ (.string (Oo t.sort)))):=b2.o.sc;have b6:Hid (w.heap.size+2<=(w2.setCell ⟨w.heap.size,1,none⟩ (.string (Oo t.sort))).heap.size):=by have:=d4.o;unfold Hid;simp[World.setCell];omega
 clear a1 a2 f1 j G;generalize w2.setCell ⟨w.heap.size,1,none⟩ (.string (Oo t.sort))=W3 at q E Y b6 ⊢;refine(Eh (Oo t.text) _ d8).mono ?_;rintro e w4 ⟨rfl,O⟩;have j:=Hd (q.o.bl q.o.lt O);have G:=Hd (E.o.bl E.o.lt O);have b3:=Y.up O;have d5:Hid (w.heap.size+2<=w4.heap.size):=by have:=O.size;have:=b6.o;unfold Hid;omega
 clear O q E Y b2;have a2:=j.o.cell 2;have a5:=j.o.cell 5;simp only[Jr,Jy]at a2 a5;have f2:=j.o.fz 2
 go_wp2_with fail
 have q:Hid (Bx (w4.setCell ⟨w.heap.size,2,none⟩ (.string (Oo t.text))) w.heap.size [.int .i64 t.op,.string (Oo t.sort),.string (Oo t.text),.int .i64 t.a,.int .i64 t.b,.slice qk t.kids.length dk]):=j.o.set 2 _;have E:=Hd (G.o.other ⟨w.heap.size,2,none⟩ (by simp) (.string (Oo t.text)));have R:Hid (Up w (w4.setCell ⟨w.heap.size,2,none⟩ (.string (Oo t.text)))):=b3.o.sc;have b7:Hid (w.heap.size+2<=(w4.setCell ⟨w.heap.size,2,none⟩ (.string (Oo t.text))).heap.size):=by have:=d5.o;unfold Hid;simp[World.setCell];omega
 clear a2 a5 f2 j G;generalize w4.setCell ⟨w.heap.size,2,none⟩ (.string (Oo t.text))=W5 at q E R b7 ⊢;refine(OK _ t.kids _ (HI.o.bl R.o) hl).mono ?_;rintro e w6 ⟨v6,rfl,J,V⟩;obtain⟨p6,Z,rfl⟩:=V6 J;have j:=Hd (q.o.bl q.o.lt V);have G:=Hd (E.o.bl E.o.lt V);have d2:=R.up V;have b4:Hid (w6.ownsRow (w.heap.size+2) 3 1 (.slice p6 t.kids.length Z) t.kids.length (Uq t.kids)):=by
  refine⟨J.1,?_⟩
  rcases J.2 with h0|⟨g,d6,cur,e,hg,h3⟩
  ·exact .inl h0
  exact .inr ⟨g,d6,cur,e,by have:=b7.o;omega,h3⟩
 clear V q E R b3 J;obtain⟨a0,a1,a2,a3,a4,a5⟩:=j.o.k6;obtain⟨r0,r1,r2,r3,r4,r5⟩:=G.o.k6;have f5:=j.o.fz 5;obtain⟨g0,g1,g2,g3,g4,g5⟩:=G.o.f6;have hq:w.heap.size<=w.heap.size+1:=by omega
 have HE:=Hd ((((((((G.o.other ⟨w.heap.size,5,none⟩ (by simp) (.slice p6 t.kids.length Z)).set 0 (.int .i64 t.op)).set 1 (.string (Oo t.sort))).set 2 (.string (Oo t.text))).set 3 (.int .i64 t.a)).set 4 (.int .i64 t.b)).set 5 (.slice p6 t.kids.length Z)));have d3:=Hd ((((((((d2.o.setCell (p:=⟨w.heap.size,5,none⟩) leR (.slice p6 t.kids.length Z)).setCell (p:=⟨w.heap.size+1,0,none⟩) hq (.int .i64 t.op)).setCell (p:=⟨w.heap.size+1,1,none⟩) hq (.string (Oo t.sort))).setCell (p:=⟨w.heap.size+1,2,none⟩) hq (.string (Oo t.text))).setCell (p:=⟨w.heap.size+1,3,none⟩) hq (.int .i64 t.a)).setCell (p:=⟨w.heap.size+1,4,none⟩) hq (.int .i64 t.b)).setCell (p:=⟨w.heap.size+1,5,none⟩) hq (.slice p6 t.kids.length Z)))
 go_wp2_with fail
 have e0:=HE.o.cell 0;have e1:=HE.o.cell 1;have e2:=HE.o.cell 2;have e3:=HE.o.cell 3;have e4:=HE.o.cell 4;have e5:=HE.o.cell 5;simp only[Je,Jf,Jr,Jy]at e0 e1 e2 e3 e4 e5;refine Jl (v:=.agg #[.int .i64 t.op,.string (Oo t.sort),.string (Oo t.text),.int .i64 t.a,.int .i64 t.b,.slice p6 t.kids.length Z]) ?_ rfl ⟨p6,t.kids.length,Z,rfl,own_lower (own_other' b4.o (fun g hg=>?_)) (by omega),d3.o⟩
 ·clear a0 a1 a2 a3 a4 a5 r0 r1 r2 r3 r4 r5 f5 g0 g1 g2 g3 g4 g5;simp[results,results105,go_sem,e0,e1,e2,e3,e4,e5]
 have i1:=Oe b4.o g hg;have n1:g≠w.heap.size+1:=by omega
 have n0:g≠w.heap.size:=by omega
 rw[Jh _ _ _ _ n1,Jh _ _ _ _ n1,Jh _ _ _ _ n1,Jh _ _ _ _ n1,Jh _ _ _ _ n1,Jh _ _ _ _ n1,Jh _ _ _ _ n0]
theorem step_appS{ops:Array Oper}{o:Oper}{a:Act}{K:Act->World->Prop}{Q:Exit->Act->World->Prop}{E:Prop}{W:World}{t:ByteArray}{base n:Nat}{v:Value}{xs:List Value}(hgd:o.guard=none)(s y:Operand)
 (ho:o.op=.call { callee:=.builtin .append,args:=#[s,y],argTypes:=#[23,23] }) (hs:a.eval s=v) (hown:W.ownsRow base 9 1 v n xs)
 (hx:a.eval y=.slice (some ⟨W.heap.size,0,none⟩) 1 1) (hn:n<=1000000000) (hbase:base<=W.heap.size)
 (h:∀g cap W',W'.ownsRow base 9 1 (.slice (some ⟨g,0,none⟩) (n+1) cap) (n+1) (xs++[.string t])->(W.alloc (.cells #[.string t] 9)).grownBy W' v.ownBlock->K (a.put o.dst (.slice (some ⟨g,0,none⟩) (n+1) cap)) W') :
 if Region.wanted o (yielded ops a.tmps)=true then Oper.wp prog o a (W.alloc (.cells #[.string t] 9)) K Q else E:=by
 obtain⟨i0,j,q,G,J⟩:=Xr;refine step_append_lies _ hgd s y 23 ho base 9 i0 (.string ⟨#[]⟩) 1 16 underlying23 j q G J rfl (by decide) v n xs hs (hown.alloc _) ⟨W.heap.size,0,none⟩ 1 1 [.string t] hx rfl
  (World.news_of_block (cs:=#[.string t]) (t:=9) (fr:=(0,0)) (heap_alloc_new W _)) (by simp[Value.oneCell']) (by decide) (by unfold maxLen;omega) (by omega) (by simp;omega) _ rfl ?_
 intro g cap W' O R _ _;exact h g cap W' O R
theorem Dl{w3 W':World}(h:Up w3 W)(h':Up W W'):Up w3 W':=h.trans (h'.mono h.size)
theorem LM{l:List Value}{ty:TypeId}(h:Below (W.alloc (.cells l.toArray ty)).drew.heap.size (W.alloc (.cells l.toArray ty)).drew w'):Bx w' W.heap.size l:=(Oq W l ty).drew.bl (Oq W l ty).drew.lt h
theorem LF{l:List Value}{ty:TypeId}(h:Below (W.alloc (.cells l.toArray ty)).heap.size (W.alloc (.cells l.toArray ty)) w'):Bx w' W.heap.size l:=(Oq W l ty).bl (Oq W l ty).lt h
theorem YT{N g:Nat}(hb:Below N w W)(hN:N<=g){a b c:Value}:Below N w (((W.setCell ⟨g,0,none⟩ a).setCell ⟨g,1,none⟩ b).setCell ⟨g,2,none⟩ c):=((hb.setCell (p:=⟨g,0,none⟩) hN a).setCell (p:=⟨g,1,none⟩) hN b).setCell (p:=⟨g,2,none⟩) hN c
theorem Sk(f:Fn)(va:Value)(w:World)(hva:O4 w va f.args)(hl:f.args.length<=5)(hzn:f.name.length<=1048576)(hzs:f.sort.length<=1048576)(hz:∀a∈f.args,a.length<=1048576) :
 Calls prog 102 #[.agg #[.string (Oo f.name),va,.string (Oo f.sort)]] w fun e w'=>∃p n c,e=.returned (.agg #[.string (Oo f.name),.slice p n c,.string (Oo f.sort)])/\w'.ownsRow w.heap.size 9 1 (.slice p n c) f.args.length (strsC f.args)/\Up w w':=by
 have j7:=Hd hva;obtain⟨pa,ca,rfl,h1,h2,h3⟩:=hva;have HA:=Hd h3;have HZ:=Hd hz;unfold maxLen at h2;clear h3 hz;have e5:(Oo f.name).size<=1048576:=by show f.name.toArray.size<=_;simpa using hzn
 have e6:(Oo f.sort).size<=1048576:=by show f.sort.toArray.size<=_;simpa using hzs
 generalize Oo f.name=t1 at e5 ⊢;generalize Oo f.sort=t2 at e6 ⊢
 go_in
 go_upto_region 1 with fail
 obtain⟨W1,a1⟩:=O2 ((w.alloc (.cells #[.string t1,.slice pa f.args.length ca,.string t2] 75)).alloc (.cells #[.string ⟨#[]⟩,.slice none 0 0,.string ⟨#[]⟩] 75));have f9:Hid (Up w W1):=by unfold Hid;rw[<-a1];exact((Ji _ _).alloc leR _).alloc (by rw[Ju];omega) _
 have g4:Hid (W1.heap.size=w.heap.size+2):=by unfold Hid;rw[<-a1];simp
 have a8:Hid (Bx W1 w.heap.size [.string t1,.slice pa f.args.length ca,.string t2]):=by unfold Hid;rw[<-a1];exact(Oq w _ _).alloc _
 have b9:Hid (Bx W1 (w.heap.size+1) [.string ⟨#[]⟩,.slice none 0 0,.string ⟨#[]⟩]):=by unfold Hid;rw[<-a1];have h:=Oq (w.alloc (.cells #[.string t1,.slice pa f.args.length ca,.string t2] 75)) [.string ⟨#[]⟩,.slice none 0 0,.string ⟨#[]⟩] 75;rw[Ju]at h;exact h
 rw[a1];clear a1;have O:Hid (∀W,Up W1 W->W.cell? ⟨w.heap.size,0,none⟩=some (.string t1)/\W.cell? ⟨w.heap.size,2,none⟩=some (.string t2)):=fun W hW=>by
  have h:=a8.o.bl a8.o.lt hW;exact⟨h.cell 0,h.cell 2⟩
 have h8:=O.o W1 (Ji _ _)
 go_cut [3] (fun s3 wx=>∃gx,s3=.pointer (some ⟨gx,0,none⟩)/\w.heap.size+2<=gx/\Bx wx gx [.string t1,.slice none 0 0,.string t2]/\Up W1 wx)
 case first=>
  go_region_held3 (fun W=>W.cell? ⟨w.heap.size,0,none⟩=some (.string t1)/\W.cell? ⟨w.heap.size,2,none⟩=some (.string t2))
   (first
     | with_reducible exact O.o _ K.o
     | with_reducible exact O.o _ (K.o.alloc K.o.size _)
     | with_reducible exact O.o _ (YT K.o R.o.size)
     | with_reducible exact O.o _ (YT K.o leR)
     | with_reducible exact O.o _ R.o
     | with_reducible exact O.o _ (R.o.alloc R.o.size _)
     | with_reducible exact O.o _ (Ji _ _).drew
     | with_reducible exact O.o _ (Oy _ _).drew)
   (first
     | (go_at_call 100;refine(Eh t1 _ e5).mono ?_;rintro e w2 ⟨rfl,hb2⟩;have R:Hid (Up W1 w2):=Dl (by first|with_reducible exact(Ji _ _).drew|exact(Oy _ _).drew) hb2;try (have c8:=Hd (LM hb2));clear hb2)
     | (go_at_call 100;refine(Eh t2 _ e6).mono ?_;rintro e w3 ⟨rfl,G⟩;have K:Hid (Up W1 w3):=Dl (by first|with_reducible exact R.o|exact R.o.alloc R.o.size _) G;(first|have Y:=Hd (LF G)|have Y:=Hd (c8.o.bl c8.o.lt G)|skip);try (have r0:=Y.o.cell 0;have r1:=Y.o.cell 1;have r2:=Y.o.cell 2;have f0:=Y.o.fz 0;have f1:=Y.o.fz 1;have f2:=Y.o.fz 2);clear G))
  all_goals
   go_wp2
   go_meet
   have l4:=g4.o;have i6:=R.o.size;have i7:=K.o.size
   first
    | (have hE:=((Y.o.set 0 (.string t1)).set 1 (.slice none 0 0)).set 2 (.string t2);exact⟨_,rfl,by omega,hE,by first|exact YT K.o i6|exact YT K.o leR⟩)
    | exact⟨w3.heap.size,rfl,by omega,Oq w3 [.string t1,.slice none 0 0,.string t2] 75,K.o.alloc i7 _⟩
 obtain⟨gx,rfl,l2,b2,b0⟩:=hcut;have d5:=Hd b2;have K:=Hd b0;have g9:=Hd (a8.o.bl a8.o.lt b0);have h0:=Hd (b9.o.bl b9.o.lt b0);have g2:=f9.up b0;have b1:=g9.o.cell 1;simp only[Jr,Jy]at b1;clear b2 b0 a8 b9 h8;obtain⟨W2,rfl⟩:∃W2,W2=wc:=⟨_,rfl⟩;have a7:=Hd d5.o.lt
 go_wp2_with fail
 clear b1
 go_loopw [16] (fun i wr=>∃k:Nat,k<=f.args.length/\i=.int .i64 (k:Nat)/\∃p c,Bx wr gx [.string t1,.slice p k c,.string t2]/\wr.ownsRow W2.heap.size 9 1 (.slice p k c) k (strsC (f.args.take k))/\Bx wr (w.heap.size+1) [.string ⟨#[]⟩,.slice none 0 0,.string ⟨#[]⟩]/\Up w wr/\W2.heap.size<=wr.heap.size) (fun i _=>f.args.length - (intOf i).toNat)
 case atStart=>exact⟨0,Jp _,rfl,none,0,d5.o,⟨rfl,.inl ⟨rfl,rfl⟩⟩,h0.o,g2.o,leR⟩
 obtain⟨k,hk,rfl,p,c,b2,b8,e8,d9,e7⟩:=hrel;have Z:=Hd b2;have HOWN:=Hd b8;have b4:=Hd e8;have V:=Hd d9;have d3:=Hd e7;clear b2 b8 e8 d9 e7
 by_cases b3:k<f.args.length
 ·rcases HA.o with e0|⟨ba,rfl,h9,e3⟩
  ·rw[e0]at b3;cases b3
  have ck:=(V.o.cell (p:=⟨ba,k,none⟩) h9).trans (e3 k b3);clear e3;have d7:(Oo f.args[k]).size<=1048576:=by
   have:=HZ.o _ (Jj b3)
   show f.args[k].toArray.size<=_
   simpa using this
  obtain⟨ak,c6⟩:=O2 (f.args[k]);have f8:=Hd c6;rw[c6]at ck d7;clear c6;have i0:(0:Int)<=(k:Int):=by omega
  have i1:(k:Int)<(f.args.length:Int):=by omega
  have cr:=Z.o.cell 1;simp only[Jr,Jy]at cr;have b7:Hid (∀(g:Nat) (l:List Value) (w3 w5:World),Bx wr g l->Up wr w3->(w3.alloc (.cells #[.string (Oo ak)] 9)).grownBy w5 (Value.slice p k c).ownBlock->g<W2.heap.size->Bx w5 g l):=fun g l w3 w5 hx hb hg hl=>by
   obtain⟨ty,h⟩:=(hx.bl hx.lt hb).alloc (.cells #[.string (Oo ak)] 9);exact⟨ty,(hg.block g (by have:=hx.lt;have:=hb.size;simp;omega) (fun e=>by have:=Oe HOWN.o g e.symm;omega)).trans h⟩
  go_wp2
  go_region_law
   (first
     | (refine step_appS (t:=Oo ak) (n:=k) (base:=W2.heap.size) (v:=.slice p k c) (xs:=strsC (f.args.take k)) (W:=w3) (by rfl) _ _ (by rfl) (by rfl) (own_other' HOWN.o (fun g hg=>j.o.block g (HOWN.o.lt g hg).2)) (by rfl) (by omega) (Jm d3.o j.o.size) ?_;intro g5 c5 w5 J E;have d2:=Hd J;have d0:=Hd E;have b6:Bx w5 gx [.string t1,.slice p k c,.string t2]:=b7.o gx _ w3 w5 Z.o j.o E (by have:=a7.o;omega);have d1:=b6.cell 1;have e1:=b6.fz 1;simp only[Jr,Jy]at d1;have g7:=Hd b6;clear J E b6)
     | (go_simp;refine(Eh (Oo ak) _ d7).mono ?_;rintro e w3 ⟨rfl,G⟩;have j:Hid (Up wr w3):=⟨G.os,G.tape,G.output,G.size,G.block⟩;have c1:w3.cell? ⟨gx,1,none⟩=some (.slice p k c):=(Z.o.bl Z.o.lt j.o).cell 1;have q3:gx<w3.heap.size:=Jn Z.o.lt j.o.size;clear G;go_wp2_with fail))
  all_goals
   have g8:=Hd (b7.o (w.heap.size+1) _ w3 w5 b4.o j.o d0.o (by have:=a7.o;omega));have E:=d0.o;have J:=d2.o;have d8:Up w w5:=by
    refine⟨E.os.trans (j.o.os.trans V.o.os),E.tape.trans (j.o.tape.trans V.o.tape),E.output.trans (j.o.output.trans V.o.output),?_,fun q hq=>?_⟩
    ·have h1:=E.size;have h2:=j.o.size;have h3:=V.o.size;rw[Ju]at h1;omega
    have h3:=V.o.size;have h2:=j.o.size;rw[E.block q (by simp;omega) (fun e=>by have:=Oe HOWN.o q e.symm;have:=a7.o;omega),(Oy w3 _).block q (by omega),j.o.block q (by omega),V.o.block q hq]
   have e4:W2.heap.size<=w5.heap.size:=by have h1:=E.size;have h2:=j.o.size;have h3:=d3.o;rw[Ju]at h1;omega
   have g0:=Hd d8;have g6:=Hd e4;have g3:Hid (g5≠gx):=fun e=>by have:=Oe J g5 rfl;have:=a7.o;omega
   clear d8 e4 J E
   go_wp2
   go_roundw
   case rel=>
    have hC:strsC (f.args.take (k+1))=strsC (f.args.take k)++[.string (Oo ak)]:=by rw[M0 b3,f8.o]
    refine⟨k+1,by omega,by go_num,some ⟨g5,0,none⟩,c5,g7.o.set 1 _,?_,g8.o.other ⟨gx,1,none⟩ (by simp;omega) _,g0.o.setCell (p:=⟨gx,1,none⟩) (by show w.heap.size<=gx;omega) _,by have:=g6.o;simpa[World.setCell]using this⟩;rw[hC];exact own_other' d2.o (fun g hg=>Jh _ _ _ _ (fun e=>g3.o (by cases hg;exact e)))
   simp[intOf];omega
 obtain rfl:k=f.args.length:=by omega
 obtain⟨c0,c1,c2⟩:=Z.o.c3;obtain⟨r0,r1,r2⟩:=b4.o.c3;obtain⟨f0,f1,f2⟩:=b4.o.f3;have hq:w.heap.size<=w.heap.size+1:=by omega
 have HE:=Hd (((b4.o.set 0 (.string t1)).set 1 (.slice p f.args.length c)).set 2 (.string t2));have g1:=Hd (((V.o.setCell (p:=⟨w.heap.size+1,0,none⟩) hq (.string t1)).setCell (p:=⟨w.heap.size+1,1,none⟩) hq (.slice p f.args.length c)).setCell (p:=⟨w.heap.size+1,2,none⟩) hq (.string t2));have d4:Hid (w.heap.size+2<=W2.heap.size):=by have:=a7.o;unfold Hid;omega
 clear hk
 go_wp2_with fail
 obtain⟨e0,e1,e2⟩:=HE.o.c3;refine Jl (v:=.agg #[.string t1,.slice p f.args.length c,.string t2]) ?_ rfl ⟨p,f.args.length,c,rfl,?_,g1.o⟩
 ·clear c0 c1 c2 r0 r1 r2 f0 f1 f2;simp[results,results102,go_sem,e0,e1,e2]
 have h:=HOWN.o;rw[Y1]at h;refine own_lower (own_other' h (fun g hg=>?_)) (by have:=d4.o;omega);have l1:=Oe h g hg;have n1:g≠w.heap.size+1:=by have:=d4.o;omega
 rw[Jh _ _ _ _ n1,Jh _ _ _ _ n1,Jh _ _ _ _ n1]
theorem P4:Maps.Keyed prog 110:=Maps.Keyed.of_law (deep_law (m:=2) (by omega) (by kernel_rfl) (by kernel_rfl) (by kernel_rfl))
def Ci(t:Tm):Value:=.agg #[.int .i64 t.op,.string (Oo t.sort),.string (Oo t.text),.int .i64 t.a,.int .i64 t.b,.string (Oo (U3 t.kids))]
def CS(t:Tm):List Lit:=[.int .i64 t.op,.string t.sort,.string t.text,.int .i64 t.a,.int .i64 t.b,.string (U3 t.kids)]
def Xk(t:Tm):Lit:=.string (keyBytes (CS t))
structure WfT(t:Tm):Prop where
 op:(Lit.int .i64 t.op).wf=true
 a:(Lit.int .i64 t.a).wf=true
 b:(Lit.int .i64 t.b).wf=true
 sort:t.sort.length<=1048576
 text:t.text.length<=1048576
 kids:t.kids.length<=50
 kid:∀x∈t.kids,0<=x/\x<65536
theorem E0(h:WfT t):keyOf prog 110 (Ci t)=some (Xk t):=by
 have j:prog.cellsOf 110=6:=by kernel_rfl
 have q:prog.keyType 110=true:=by kernel_rfl
 unfold keyOf;rw[underlying110];simp only[q,Yz];have O:Value.formed prog 110 (Ci t)=true:=by
  unfold Ci Value.formed;rw[underlying110];simp[j]
 rw[if_pos O];have E:0<prog.types.size:=of_decide_eq_true (by kernel_rfl);obtain⟨m,hm⟩:∃m,prog.types.size=m+1:=⟨prog.types.size - 1,by omega⟩;have c3:prog.cellsOf 3=1:=by kernel_rfl
 have c9:prog.cellsOf 9=1:=by kernel_rfl
 have s1:(Oo t.sort).size<=maxLen:=by show t.sort.toArray.size<=_;have:=h.sort;unfold maxLen;simp;omega
 have R:(Oo t.text).size<=maxLen:=by show t.text.toArray.size<=_;have:=h.text;unfold maxLen;simp;omega
 have V:(Oo (U3 t.kids)).size<=maxLen:=by show(U3 t.kids).toArray.size<=_;have:=h.kids;have:=Mh t.kids;unfold maxLen;simp;omega
 have G:=h.op;have J:=h.a;have K:=h.b;rw[hm];unfold Program.keyLits;rw[underlying110];unfold Ci Xk CS;simp only[Value.cells];simp[j,Program.keyLits,underlying3,underlying9,c3,c9,s1,R,V,G,J,K,Ov,List.mapM_cons]
theorem LB{x y:Int}(hx:0<=x/\x<65536)(hy:0<=y/\y<65536)(h1:UInt8.ofNat (x.toNat / 256)=UInt8.ofNat (y.toNat / 256))(h2:UInt8.ofNat x.toNat=UInt8.ofNat y.toNat):x=y:=by
 have h:=congrArg UInt8.toNat h1;have j:=congrArg UInt8.toNat h2;simp only[UInt8.toNat_ofNat']at h j;omega
theorem EW:∀ {a b:List Int},(∀x∈a,0<=x/\x<65536)->(∀x∈b,0<=x/\x<65536)->U3 a=U3 b->a=b:=by
 intro a
 induction a with
 | nil=>
   intro b _ _ h
   cases b with
   | nil=>rfl
   | cons y r=>exact absurd h (by simp[U3])
 | cons x r ih=>
   intro b ha hb h
   cases b with
   | nil=>exact absurd h (by simp[U3])
   | cons y r2=>
     have e:∀(z:Int) (l:List Int),U3 (z::l)=UInt8.ofNat (z.toNat / 256)::UInt8.ofNat z.toNat::U3 l:=fun z l=>by simp[U3]
     rw[e,e]at h;simp only[List.cons.injEq]at h;rw[LB (ha x (by simp)) (hb y (by simp)) h.1 h.2.1,ih (fun z hz=>ha z (by simp[hz])) (fun z hz=>hb z (by simp[hz])) h.2.2]
theorem S6{u:Tm}(ht:WfT t)(hu:WfT u)(h:Xk t=Xk u):t=u:=by
 have j:=P4.inj (E0 ht) (by rw[h];exact E0 hu);unfold Ci at j;simp only[Value.agg.injEq,Array.mk.injEq,List.cons.injEq,Value.int.injEq,Value.string.injEq,true_and,and_true]at j;obtain⟨q,E,G,J,K,h6⟩:=j;exact PY.2 ⟨q,Hy E,Hy G,J,K,EW ht.kid hu.kid (Hy h6)⟩
def Kd(T:List Tm)(t:Tm):Option Nat:=T.findIdx? (fun u=>Nl u t)
def Kn(w:World)(b n:Nat)(T:List Tm):Prop:=
 ∃D:DataW Unit,w.ownsMap prog 110 (plainElem prog 3) b n D/\∀t,WfT t->Maps.has D (Xk t)=(Kd T t).isSome/\∀i,Kd T t=some i->D.atKey (Xk t) (.lit (.int .i64 0))=.lit (.int .i64 (i:Nat))
theorem Kn.low{b N:Nat}(h:Kn w b n T)(hb:Below N w w')(hN:b<N):Kn w' b n T:=by
 obtain⟨D,⟨j,cl,hm,E⟩,q⟩:=h;exact⟨D,⟨j,cl,(hb.block b hN).trans hm,E⟩,q⟩
theorem R4{s:Tm}(h:Kd T s=none)(t:Tm):Kd (T++[s]) t=if Nl t s=true then some T.length else Kd T t:=by
 unfold Kd at h ⊢;rw[List.findIdx?_append]
 by_cases j:t=s
 ·subst j;rw[h,if_pos (Ut.2 rfl)];simp[List.findIdx?_cons,Ut.2]
 rw[if_neg (fun e=>j (Ut.1 e))];have:Nl s t=false:=Ga.2 fun e=>j e.symm
 cases q:List.findIdx? (fun x=>Nl x t) T with
 | none=>simp[List.findIdx?_cons,this]
 | some i=>simp
theorem Kn.put{b:Nat}{D:DataW Unit}(hD:∀t,WfT t->Maps.has D (Xk t)=(Kd T t).isSome/\∀i,Kd T t=some i->D.atKey (Xk t) (.lit (.int .i64 0))=.lit (.int .i64 (i:Nat)))(hm:Maps.IsMap D){s:Tm}(hw:WfT s)(hs:Kd T s=none)(hown:w.ownsMap prog 110 (plainElem prog 3) b n (D.put (Xk s) (.lit (.int .i64 (T.length:Nat))))):Kn w b n (T++[s]):=by
 have j:=P4.key (E0 hw);refine⟨_,hown,fun t ht=>?_⟩;rw[R4 hs]
 by_cases h:t=s
 ·subst h;rw[if_pos (Ut.2 rfl)];refine⟨Maps.has_put_same hm j _,fun i hi=>?_⟩;cases hi;exact Maps.atKey_put_same hm j _ _
 rw[if_neg (fun e=>h (Ut.1 e))];have q:Xk t≠Xk s:=fun e=>h (S6 ht hw e);rw[Maps.has_put_other q,Maps.atKey_put_other q];exact hD t ht
end Go.Proofs.YtfkagjelljnpdaaGreatDoor
