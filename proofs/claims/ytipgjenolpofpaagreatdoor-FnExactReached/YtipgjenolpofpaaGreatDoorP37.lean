import Derived.Test.YtipgjenolpofpaaGreatDoorP36
import Derived.OwnWalk
set_option maxRecDepth 100000
set_option maxHeartbeats 16000000
namespace Go.Proofs.YtipgjenolpofpaaGreatDoor
open ChangeShapes WideShapes ChangeAt RowKit Proofs.Tryz
theorem UC {o:Int}{r:Rule}(h:Ep o=some r):1<=o/\o<=47:=by
 by_cases d:1<=o/\o<=47
 ·exact d
 rw[Fs d] at h;cases h
theorem X7 {o:Int}{r:Rule}(h:Ep o=some r):r∈rules:=by
 unfold Ep at h
 split at h
 ·cases h
 exact List.mem_of_find?_eq_some h
theorem ZC {o:Int}{r:Rule}(h:Ep o=some r):r.least=Kh o/\r.most<=50:=by
 refine⟨?_,(Ip r (X7 h)).2.2.1⟩
 rcases UD (UC h) with rfl|rfl|rfl|rfl|rfl|rfl|rfl|rfl|rfl|rfl|rfl|rfl|rfl|rfl|rfl|rfl|rfl|rfl|rfl|rfl|rfl|rfl|rfl|rfl|rfl|rfl|rfl|rfl|rfl|rfl|rfl|rfl|rfl|rfl|rfl|rfl|rfl|rfl|rfl|rfl|rfl|rfl|rfl|rfl|rfl|rfl|rfl
 all_goals (cases h;rfl)
theorem DU {o:Int}{r:Rule}(h:Ep o=some r)(p:Nat)(hp:r.role p=14):o=11:=by
 rcases UD (UC h) with rfl|rfl|rfl|rfl|rfl|rfl|rfl|rfl|rfl|rfl|rfl|rfl|rfl|rfl|rfl|rfl|rfl|rfl|rfl|rfl|rfl|rfl|rfl|rfl|rfl|rfl|rfl|rfl|rfl|rfl|rfl|rfl|rfl|rfl|rfl|rfl|rfl|rfl|rfl|rfl|rfl|rfl|rfl|rfl|rfl|rfl|rfl
 all_goals (cases h;first|rfl|(exfalso;unfold Rule.role at hp;simp only at hp;split at hp;omega;split at hp<;>omega))
theorem ZQ {o:Int}{r:Rule}(h:Ep o=some r)(p:Nat):r.role p<=20:=by
 have:=Ip r (X7 h);unfold Rule.role
 split
 ·omega
 split<;>omega
theorem VI {rd:List UInt8->SI}{num:Tm->Bool}{F:List Fn}{f2:List UInt8->Option Nat}{T:List Tm}{t:Tm}{r:Rule}(h:Ep t.op=some r):Gi rd num F f2 T t=(decide (r.least<=t.kids.length/\t.kids.length<=r.most)&&Xz T.length t&&O5 r.sort (rd t.sort).kind&&G1 t&&U7 rd num F f2 T t&&(List.range t.kids.length).all (fun p=>Kg rd F f2 T t (r.role p) p)):=by
 unfold Gi;rw[h]
theorem Xp {w:World}{kb sb fb gb n:Nat}{S:List (List UInt8)}{F:List Fn}{T:List Tm}{vS vF vT v5:Value}{g:List UInt8->Option SI}(h:BK w kb sb fb gb n S F T vS vF vT v5 g)(t:Tm)(vk:Value)(hk:U5 w vk t.kids)(num:Tm->Bool)(hT:T.length<=1000000)(hl:t.kids.length<=1048576)(hF:F.length<=1000)(hz:∀ u∈T,u.sort.length<=1048576)(hts:t.sort.length<=1048576)(htx:t.text.length<=1048576)(hn:n<=800000000)
 (hnum:t.op=12->((Ov (Oh (Og S)) t.sort).kind=2∨(Ov (Oh (Og S)) t.sort).kind=3)->∀ W,Bar gb w W->Calls prog 118 #[.string (Oo t.sort),.string (Oo t.text)] W fun e w'=>e=.returned (.bool (num t))/\Up W w') :
 Calls prog 84 #[.pointer (some ⟨kb,0,none⟩),Ie t vk] w fun e w'=>e=.returned (.bool (Gi (Ov (Oh (Og S))) num F (Oq F) T t))/\O6 w w' kb sb fb gb n S F T vS vF vT v5 60:=by
 obtain⟨qk,dk,rfl,p2,l7,j3⟩:=hk;have HH:=Hd h;have HI:Hid (U5 w (.slice qk t.kids.length dk) t.kids):=⟨qk,dk,rfl,p2,l7,j3⟩;have HK:=Hd j3;have HZ:=Hd hz;have j6:=Hd hnum;unfold maxLen at l7;clear h j3 hz hnum;have p0:(Oo t.sort).size<=1048576:=by show t.sort.toArray.size<=_;simpa using hts
 have HB:Hid (Up w (w.alloc (.cells #[.int .i64 t.op,.string (Oo t.sort),.string (Oo t.text),.int .i64 t.a,.int .i64 t.b,.slice qk t.kids.length dk] 57))):=Oy _ _;have e8:Hid (Bx (w.alloc (.cells #[.int .i64 t.op,.string (Oo t.sort),.string (Oo t.text),.int .i64 t.a,.int .i64 t.b,.slice qk t.kids.length dk] 57)) w.heap.size [.int .i64 t.op,.string (Oo t.sort),.string (Oo t.text),.int .i64 t.a,.int .i64 t.b,.slice qk t.kids.length dk]):=Oi _ _ _;obtain⟨J,e5⟩:=O1 (Gi (Ov (Oh (Og S))) num F (Oq F) T t);rw[e5];have g3:=Hd e5;clear e5;unfold Ie
 go_in
 go_wp2_with fail
 refine (ZD t.op _ (HH.o.next HB.o).rt).mono ?_
 cases a8:Ep t.op with
 | none=>
   have G:Hid (J=false):=by unfold Hid;rw[<-g3.o];unfold Gi;rw[a8]
   clear a8;rintro e K ⟨rfl,c8⟩;have d5:=HB.up c8;have h0:=e8.o.bl e8.o.lt c8;have t5:=h0.cell 5;simp only[Jo,Jr] at t5;clear c8 h0;have A:Hid (Up w (K.alloc (.cells #[.int .u8 0,.int .u8 0,.int .u8 0,.int .u8 0,.int .u8 0,.int .u8 0,.int .u8 0] 133))):=d5.o.alloc d5.o.size _;simp only[Option.getD_none,Option.isSome_none];unfold Pv M0
   go_wp2
   go_ret
   exact⟨Oz G.o.symm,O6.of HH.o A.o 60⟩
 | some r=>
   have f5:=Hd a8;have HT:Hid (J=(decide (r.least<=t.kids.length/\t.kids.length<=r.most)&&Xz T.length t&&O5 r.sort (Ov (Oh (Og S)) t.sort).kind&&G1 t&&U7 (Ov (Oh (Og S))) num F (Oq F) T t&&(List.range t.kids.length).all (fun p=>Kg (Ov (Oh (Og S))) F (Oq F) T t (r.role p) p))):=by unfold Hid;rw[<-g3.o,VI a8]
   obtain⟨o3,o4,o5,o6,o7,o8,o9⟩:=Ip r (X7 a8);clear a8;rintro e K ⟨rfl,c8⟩;have d5:=HB.up c8;have HY:=Hd (e8.o.bl e8.o.lt c8);have q9:w.heap.size<K.heap.size:=HY.o.lt;clear c8;simp only[Un,Option.isSome_some];obtain⟨la,le,mo,so,r0,r1,r2⟩:=r;simp only at HT o3 o4 o5 o6 o7 o8 o9;have A:Hid (Up w (K.alloc (.cells #[.int .u8 (la:Nat),.int .u8 (le:Nat),.int .u8 (mo:Nat),.int .u8 (so:Nat),.int .u8 (r0:Nat),.int .u8 (r1:Nat),.int .u8 (r2:Nat)] 133))):=d5.o.alloc d5.o.size _;have k1:=Hd (HY.o.alloc (.cells #[.int .u8 (la:Nat),.int .u8 (le:Nat),.int .u8 (mo:Nat),.int .u8 (so:Nat),.int .u8 (r0:Nat),.int .u8 (r1:Nat),.int .u8 (r2:Nat)] 133));have k7:Hid (Bx (K.alloc (.cells #[.int .u8 (la:Nat),.int .u8 (le:Nat),.int .u8 (mo:Nat),.int .u8 (so:Nat),.int .u8 (r0:Nat),.int .u8 (r1:Nat),.int .u8 (r2:Nat)] 133)) K.heap.size [.int .u8 (la:Nat),.int .u8 (le:Nat),.int .u8 (mo:Nat),.int .u8 (so:Nat),.int .u8 (r0:Nat),.int .u8 (r1:Nat),.int .u8 (r2:Nat)]):=Oi _ _ _;unfold Pv
   go_upto_region 2 with fail
   obtain⟨W3,l0⟩:=O1 (K.alloc (.cells #[.int .u8 (la:Nat),.int .u8 (le:Nat),.int .u8 (mo:Nat),.int .u8 (so:Nat),.int .u8 (r0:Nat),.int .u8 (r1:Nat),.int .u8 (r2:Nat)] 133));rw[l0] at A k1 k7 ⊢;clear l0;obtain⟨t0,t1,t2,t3,t4,t5⟩:=k1.o.k6;obtain⟨c0,c1,c2,c3,c4,c5,c6⟩:=k7.o.c7;have d2:Hid (∀ W,Up w W->O6 w W kb sb fb gb n S F T vS vF vT v5 60):=fun W hW=>O6.of HH.o hW 60;have v1:(le:Int)<=255:=by omega
   have v2:(mo:Int)<=255:=by omega
   have v3:(so:Int)<=255:=by omega
   by_cases l1:t.kids.length<le
   ·have G:Hid (J=false):=by unfold Hid;rw[HT.o,Jg (by omega)];rfl
    go_wp2
    go_ret
    exact⟨Oz G.o.symm,d2.o _ A.o⟩
   by_cases l2:mo<t.kids.length
   ·have G:Hid (J=false):=by unfold Hid;rw[HT.o,Jg (by omega)];rfl
    have l8:le<=t.kids.length:=by omega
    go_wp2
    go_ret
    exact⟨Oz G.o.symm,d2.o _ A.o⟩
   have i7:Hid (J=(Xz T.length t&&O5 so (Ov (Oh (Og S)) t.sort).kind&&G1 t&&U7 (Ov (Oh (Og S))) num F (Oq F) T t&&(List.range t.kids.length).all (fun p=>Kg (Ov (Oh (Og S))) F (Oq F) T t (Rule.role ⟨la,le,mo,so,r0,r1,r2⟩ p) p))):=by unfold Hid;rw[HT.o,Jb (by omega),Za]
   have l8:le<=t.kids.length:=by omega
   have s1:t.kids.length<=mo:=by omega
   have p9:t.kids.length<=50:=by omega
   clear HT l1 l2
   go_cut [35] (fun s35 wx=>s35=.bool false/\W3=wx)
   case first=>
    go_wp2
    go_meet
    exact⟨by rw[Jg (by omega),Jg (by omega)];rfl,rfl⟩
   obtain⟨rfl,rfl⟩:=hcut;obtain⟨pt,ct,rfl,s2,p3,-⟩:=HH.o.tr;unfold maxLen at p3;have a2:=(HH.o.next A.o).box.c7.2.2.1
   go_wp2
   go_loopw [39] (fun i wr=>∃ k:Nat,k<=t.kids.length/\i=.int .i64 (k:Nat)/\(∀ j (h:j<t.kids.length),j<k->0<=t.kids[j]/\t.kids[j]<(T.length:Int))/\W3=wr) (fun i _=>t.kids.length - (intOf i).toNat)
   case atStart=>exact⟨0,Jy _,rfl,fun j _ h=>absurd h (J2 _),rfl⟩
   obtain⟨k,hk,rfl,hp,p1⟩:=hrel;subst p1;have HP:=Hd hp;clear hp
   by_cases U:k<t.kids.length
   ·rcases HK.o with e0|⟨bq,rfl,o1,l3⟩
    ·rw[e0] at U;cases U
    have cx:=(A.o.cell (p:=⟨bq,k,none⟩) o1).trans (l3 k U);clear l3;have i0:(0:Int)<=(k:Int):=by omega
    have i1:(k:Int)<(t.kids.length:Int):=by omega
    by_cases hx:0<=t.kids[k]/\t.kids[k]<(T.length:Int)
    ·have n8:=Hd hx;obtain⟨y,hy⟩:∃ y:Nat,t.kids[k]=(y:Int):=⟨t.kids[k].toNat,by omega⟩;rw[hy] at cx hx;clear hy;have i2:(y:Int)<(T.length:Int):=by omega
     have i6:y<T.length:=by omega
     go_wp2
     go_roundw
     case rel=>exact⟨k+1,by omega,by go_num,fun j hj h2=>by
      rcases J0.1 h2 with h|rfl
      ·exact HP.o j hj h
      exact n8.o,trivial⟩
     simp[intOf];omega
    have G:Hid (J=false):=by
     unfold Hid;have:Xz T.length t=false:=by
      unfold Xz;rw[J9];intro h;exact hx (by simpa using Ju.1 h t.kids[k] (Jw U))
     rw[i7.o,this];rfl
    generalize t.kids[k]=x at cx hx
    by_cases r6:x<0
    ·clear hx
     go_wp2
     go_ret
     exact⟨Oz G.o.symm,d2.o _ A.o⟩
    have r7:(T.length:Int)<=x:=by omega
    clear hx
    go_wp2
    go_ret
    exact⟨Oz G.o.symm,d2.o _ A.o⟩
   have h8:Hid (Xz T.length t=true):=by
    unfold Hid Xz;rw[Ju];intro x hx;obtain⟨j,hj,rfl⟩:=Ya hx
    simpa using HP.o j hj (by omega)
   have i8:Hid (J=(O5 so (Ov (Oh (Og S)) t.sort).kind&&G1 t&&U7 (Ov (Oh (Og S))) num F (Oq F) T t&&(List.range t.kids.length).all (fun p=>Kg (Ov (Oh (Og S))) F (Oq F) T t (Rule.role ⟨la,le,mo,so,r0,r1,r2⟩ p) p))):=by unfold Hid;rw[i7.o,h8.o,Za]
   have V:Hid (∀ W,Bar gb W3 W->(W.cell? ⟨w.heap.size,0,none⟩=some (.int .i64 t.op)/\W.cell? ⟨w.heap.size,1,none⟩=some (.string (Oo t.sort))/\W.cell? ⟨w.heap.size,2,none⟩=some (.string (Oo t.text))/\W.cell? ⟨w.heap.size,3,none⟩=some (.int .i64 t.a)/\W.cell? ⟨w.heap.size,4,none⟩=some (.int .i64 t.b)/\W.cell? ⟨w.heap.size,5,none⟩=some (.slice qk t.kids.length dk)/\W.cell? ⟨K.heap.size,4,none⟩=some (.int .u8 (r0:Nat))/\W.cell? ⟨K.heap.size,5,none⟩=some (.int .u8 (r1:Nat))/\W.cell? ⟨K.heap.size,6,none⟩=some (.int .u8 (r2:Nat)))):=fun W hW=>by
    have a7:=hW.keep (HH.o.next A.o).km;exact⟨a7.cell _ _ t0,a7.cell _ _ t1,a7.cell _ _ t2,a7.cell _ _ t3,a7.cell _ _ t4,a7.cell _ _ t5,a7.cell _ _ c4,a7.cell _ _ c5,a7.cell _ _ c6⟩
   have z3:¬ (k:Int)<(t.kids.length:Int):=by omega
   clear i7 hk
   go_wp2_with fail
   refine (A4 (HH.o.next A.o) (so:Nat) ⟨by omega,by omega⟩ (Oo t.sort) p0 (by omega)).mono ?_;rw[Ou]
   cases d4:O5 (so:Nat) (Ov (Oh (Og S)) t.sort).kind
   ·have G:Hid (J=false):=by unfold Hid;rw[i8.o,d4];rfl
    clear d4;rintro e w4 ⟨rfl,f9⟩;have m7:=Hd ((f9.after A.o).more (m':=60) (by omega));clear f9
    go_wp2
    go_ret
    exact⟨Oz G.o.symm,m7.o⟩
   have j0:Hid (J=(G1 t&&U7 (Ov (Oh (Og S))) num F (Oq F) T t&&(List.range t.kids.length).all (fun p=>Kg (Ov (Oh (Og S))) F (Oq F) T t (Rule.role ⟨la,le,mo,so,r0,r1,r2⟩ p) p))):=by unfold Hid;rw[i8.o,d4,Za]
   have n2:Hid (t.op=12->(Ov (Oh (Og S)) t.sort).kind=2∨(Ov (Oh (Og S)) t.sort).kind=3):=fun h12=>by
    have a8:=f5.o;rw[h12] at a8;have n9:so=11:=by cases a8;rfl
    rw[n9] at d4
    simpa[O5] using d4
   clear d4 i8;rintro e w4 ⟨rfl,f9⟩;obtain⟨n4,g4,j2,g5,d0⟩:=f9;have d8:=Hd g5;have d6:=Hd d0;obtain⟨t0,t1,t2,t3,t4,t5,c4,c5,c6⟩:=V.o w4 d0;clear g5 d0
   go_wp2_with fail
   refine (Ll t (.slice qk t.kids.length dk) w4).mono ?_
   cases g1:G1 t
   ·have G:Hid (J=false):=by unfold Hid;rw[j0.o,g1];rfl
    clear g1;rintro e w5 ⟨rfl,d3⟩;have m8:Hid (O6 w w5 kb sb fb gb n S F T vS vF (.slice pt T.length ct) v5 60):=(O6.comp (m:=0) j2 ((Bar.of A.o).trans d6.o) (O6.of d8.o d3 0)).more (by omega);clear d3
    go_wp2
    go_ret
    exact⟨Oz G.o.symm,m8.o⟩
   have j1:Hid (J=(U7 (Ov (Oh (Og S))) num F (Oq F) T t&&(List.range t.kids.length).all (fun p=>Kg (Ov (Oh (Og S))) F (Oq F) T t (Rule.role ⟨la,le,mo,so,r0,r1,r2⟩ p) p))):=by unfold Hid;rw[j0.o,g1,Za]
   clear g1 j0;rintro e w5 ⟨rfl,d3⟩;have M:Hid (Bar gb W3 w5):=d6.o.trans (Bar.of d3);have j4:=Hd (d8.o.next d3);obtain⟨t0,t1,t2,t3,t4,t5,c4,c5,c6⟩:=V.o w5 M.o;clear d3 d8
   go_wp2_with fail
   refine (Ba j4.o t (.slice qk t.kids.length dk) ((HI.o.bl A.o).keep (M.o.keep (HH.o.next A.o).km)) h8.o num hT (by omega) hF HZ.o hts htx (by omega) (by rw[<-(ZC f5.o).1];exact l8) (fun h12 W hW=>j6.o h12 (n2.o h12) W ((Bar.of A.o).trans (M.o.trans hW)))).mono ?_
   cases b5:U7 (Ov (Oh (Og S))) num F (Oq F) T t
   ·have G:Hid (J=false):=by unfold Hid;rw[j1.o,b5];rfl
    clear b5;rintro e w6 ⟨rfl,g0⟩;have m9:Hid (O6 w w6 kb sb fb gb n S F T vS vF (.slice pt T.length ct) v5 60):=(O6.comp j2 ((Bar.of A.o).trans M.o) g0).more (by omega);clear g0
    go_wp2
    go_ret
    exact⟨Oz G.o.symm,m9.o⟩
   have k0:Hid (J=(List.range t.kids.length).all (fun p=>Kg (Ov (Oh (Og S))) F (Oq F) T t (Rule.role ⟨la,le,mo,so,r0,r1,r2⟩ p) p)):=by unfold Hid;rw[j1.o,b5,Za]
   have n1:Hid (∀ p,Rule.role ⟨la,le,mo,so,r0,r1,r2⟩ p=14->Gz F (Oq F) t=true):=fun p hp=>by
    have o0:=DU f5.o p hp;unfold U7 at b5;simp only at b5;rw[if_pos o0] at b5;exact b5
   clear b5 j1;rintro e w6 ⟨rfl,g0⟩;obtain⟨n6,g6,o2,g8,e7⟩:=g0;have n3:Hid (n6<=n+4):=by unfold Hid;omega
   have j5:=Hd g8;have d7:Hid (Bar gb W3 w6):=M.o.trans e7;obtain⟨t0,t1,t2,t3,t4,t5,c4,c5,c6⟩:=V.o w6 d7.o;clear g8 e7 o2 j2;have e1:Hid (∀ i (hi:i<t.kids.length) W n' gg,BK W kb sb fb gb n' S F T vS vF (.slice pt T.length ct) v5 gg->n'<=1000000000->Bar gb W3 W->Calls prog 103 #[.pointer (some ⟨kb,0,none⟩),.int .u8 ((Rule.role ⟨la,le,mo,so,r0,r1,r2⟩ i:Nat):Int),.agg #[.int .i64 t.op,.string (Oo t.sort),.string (Oo t.text),.int .i64 t.a,.int .i64 t.b,.slice qk t.kids.length dk],.int .i64 (i:Nat)] W fun e w'=>e=.returned (.bool (Kg (Ov (Oh (Og S))) F (Oq F) T t (Rule.role ⟨la,le,mo,so,r0,r1,r2⟩ i) i))/\O6 W w' kb sb fb gb n' S F T vS vF (.slice pt T.length ct) v5 1):=fun i hi W n' gg hb hn' hbar=>
    Ty hb t _ ((HI.o.bl A.o).keep (hbar.keep (HH.o.next A.o).km)) h8.o _ i (ZQ f5.o i) hi hT (by omega) hF HZ.o htx hn' (n1.o i)
   go_wp2_with fail
   clear t0 t1 t2 t3 t4 t5 c4 c5 c6
   go_loopw [77] (fun i wr=>∃ k:Nat,k<=t.kids.length/\i=.int .i64 (k:Nat)/\(∀ j,j<k->Kg (Ov (Oh (Og S))) F (Oq F) T t (Rule.role ⟨la,le,mo,so,r0,r1,r2⟩ j) j=true)/\∃ nr gr,nr<=n+4+k/\BK wr kb sb fb gb nr S F T vS vF (.slice pt T.length ct) v5 gr/\Bar gb W3 wr) (fun i _=>t.kids.length - (intOf i).toNat)
   case atStart=>exact⟨0,Jy _,rfl,fun j h=>absurd h (J2 _),n6,g6,by have:=n3.o;omega,j5.o,d7.o⟩
   obtain⟨k,hk,rfl,l5,nr,gr,l4,g9,d1⟩:=hrel;have j7:=Hd l5;have Z:=Hd l4;have O:=Hd g9;have d:=Hd d1;have q7:=V.o wr d1;clear l5 l4 g9 d1
   by_cases U:k<t.kids.length
   ·have h9:Hid (Kg (Ov (Oh (Og S))) F (Oq F) T t (Rule.role ⟨la,le,mo,so,r0,r1,r2⟩ k) k=false->J=false):=fun h=>by
     rw[k0.o,J9];intro h2;have:=Ju.1 h2 k (Y6.2 U);rw[h] at this
     cases this
    have e3:Hid (Kg (Ov (Oh (Og S))) F (Oq F) T t (Rule.role ⟨la,le,mo,so,r0,r1,r2⟩ k) k=true->∀ j,j<k+1->Kg (Ov (Oh (Og S))) F (Oq F) T t (Rule.role ⟨la,le,mo,so,r0,r1,r2⟩ j) j=true):=fun h j h2=>by
     rcases J0.1 h2 with h3|rfl
     ·exact j7.o j h3
     exact h
    have d9:Hid (∀ W,O6 wr W kb sb fb gb nr S F T vS vF (.slice pt T.length ct) v5 1->O6 w W kb sb fb gb n S F T vS vF (.slice pt T.length ct) v5 60):=fun W ha=>(O6.comp (m2:=4+k) (by have:=Z.o;omega) ((Bar.of A.o).trans d.o) ha).more (by omega);have b9:Hid (∀ W,O6 wr W kb sb fb gb nr S F T vS vF (.slice pt T.length ct) v5 1->∃ nr gr,nr<=n+4+(k+1)/\BK W kb sb fb gb nr S F T vS vF (.slice pt T.length ct) v5 gr/\Bar gb W3 W):=fun W ha=>by
     obtain⟨n',g',h1,h2,h3⟩:=ha;have:=Z.o;exact⟨n',g',by omega,h2,d.o.trans h3⟩
    have i1:(k:Int)<(t.kids.length:Int):=by omega
    rcases (show k=0∨k=1∨2<=k by omega) with rfl|rfl|q8
    ·have r3:min (0:Int) 2=0:=rfl
     cases Y:Kg (Ov (Oh (Og S))) F (Oq F) T t (Rule.role ⟨la,le,mo,so,r0,r1,r2⟩ 0) 0
     ·have HV:=Hd Y;have G:=Hd (h9.o Y);clear Y
      go_wp2
      go_region_held3 (fun W=>W.cell? ⟨w.heap.size,0,none⟩=some (.int .i64 t.op)/\W.cell? ⟨w.heap.size,1,none⟩=some (.string (Oo t.sort))/\W.cell? ⟨w.heap.size,2,none⟩=some (.string (Oo t.text))/\W.cell? ⟨w.heap.size,3,none⟩=some (.int .i64 t.a)/\W.cell? ⟨w.heap.size,4,none⟩=some (.int .i64 t.b)/\W.cell? ⟨w.heap.size,5,none⟩=some (.slice qk t.kids.length dk)/\W.cell? ⟨K.heap.size,4,none⟩=some (.int .u8 (r0:Nat))/\W.cell? ⟨K.heap.size,5,none⟩=some (.int .u8 (r1:Nat))/\W.cell? ⟨K.heap.size,6,none⟩=some (.int .u8 (r2:Nat))) (first
       | assumption|go_keep) (first
       | (go_at_call 103;refine (e1.o 0 U wr.drew nr _ (O.o.next (Jh _ _).drew) (by have:=Z.o;omega) (d.o.then (Jh _ _).drew)).mono ?_;rw[HV.o];rintro e w9 ⟨rfl,I⟩;have E:Hid (O6 wr w9 kb sb fb gb nr S F T vS vF (.slice pt T.length ct) v5 1):=O6.after I (Jh _ _).drew;have e6:=V.o w9 (by obtain⟨n7,g7,-,-,h7⟩:=E.o;exact d.o.trans h7);clear I))
      all_goals (go_wp2;go_ret;exact⟨Oz G.o.symm,d9.o _ E.o⟩)
     have HV:=Hd Y;have HR:=Hd (e3.o Y);clear Y
     go_wp2
     go_region_held3 (fun W=>W.cell? ⟨w.heap.size,0,none⟩=some (.int .i64 t.op)/\W.cell? ⟨w.heap.size,1,none⟩=some (.string (Oo t.sort))/\W.cell? ⟨w.heap.size,2,none⟩=some (.string (Oo t.text))/\W.cell? ⟨w.heap.size,3,none⟩=some (.int .i64 t.a)/\W.cell? ⟨w.heap.size,4,none⟩=some (.int .i64 t.b)/\W.cell? ⟨w.heap.size,5,none⟩=some (.slice qk t.kids.length dk)/\W.cell? ⟨K.heap.size,4,none⟩=some (.int .u8 (r0:Nat))/\W.cell? ⟨K.heap.size,5,none⟩=some (.int .u8 (r1:Nat))/\W.cell? ⟨K.heap.size,6,none⟩=some (.int .u8 (r2:Nat))) (first
      | assumption|go_keep) (first
      | (go_at_call 103;refine (e1.o 0 U wr.drew nr _ (O.o.next (Jh _ _).drew) (by have:=Z.o;omega) (d.o.then (Jh _ _).drew)).mono ?_;rw[HV.o];rintro e w9 ⟨rfl,I⟩;have E:Hid (O6 wr w9 kb sb fb gb nr S F T vS vF (.slice pt T.length ct) v5 1):=O6.after I (Jh _ _).drew;have e6:=V.o w9 (by obtain⟨n7,g7,-,-,h7⟩:=E.o;exact d.o.trans h7);clear I))
     all_goals (go_wp2;go_roundw)
     all_goals (try (case rel=>exact⟨0+1,by omega,by go_num,HR.o,b9.o _ E.o⟩))
     all_goals (try (case measure=>simp[intOf];omega))
    ·have r4:min (1:Int) 2=1:=rfl
     cases Y:Kg (Ov (Oh (Og S))) F (Oq F) T t (Rule.role ⟨la,le,mo,so,r0,r1,r2⟩ 1) 1
     ·have HV:=Hd Y;have G:=Hd (h9.o Y);clear Y
      go_wp2
      go_region_held3 (fun W=>W.cell? ⟨w.heap.size,0,none⟩=some (.int .i64 t.op)/\W.cell? ⟨w.heap.size,1,none⟩=some (.string (Oo t.sort))/\W.cell? ⟨w.heap.size,2,none⟩=some (.string (Oo t.text))/\W.cell? ⟨w.heap.size,3,none⟩=some (.int .i64 t.a)/\W.cell? ⟨w.heap.size,4,none⟩=some (.int .i64 t.b)/\W.cell? ⟨w.heap.size,5,none⟩=some (.slice qk t.kids.length dk)/\W.cell? ⟨K.heap.size,4,none⟩=some (.int .u8 (r0:Nat))/\W.cell? ⟨K.heap.size,5,none⟩=some (.int .u8 (r1:Nat))/\W.cell? ⟨K.heap.size,6,none⟩=some (.int .u8 (r2:Nat))) (first
       | assumption|go_keep) (first
       | (go_at_call 103;refine (e1.o 1 U wr.drew nr _ (O.o.next (Jh _ _).drew) (by have:=Z.o;omega) (d.o.then (Jh _ _).drew)).mono ?_;rw[HV.o];rintro e w9 ⟨rfl,I⟩;have E:Hid (O6 wr w9 kb sb fb gb nr S F T vS vF (.slice pt T.length ct) v5 1):=O6.after I (Jh _ _).drew;have e6:=V.o w9 (by obtain⟨n7,g7,-,-,h7⟩:=E.o;exact d.o.trans h7);clear I))
      all_goals (go_wp2;go_ret;exact⟨Oz G.o.symm,d9.o _ E.o⟩)
     have HV:=Hd Y;have HR:=Hd (e3.o Y);clear Y
     go_wp2
     go_region_held3 (fun W=>W.cell? ⟨w.heap.size,0,none⟩=some (.int .i64 t.op)/\W.cell? ⟨w.heap.size,1,none⟩=some (.string (Oo t.sort))/\W.cell? ⟨w.heap.size,2,none⟩=some (.string (Oo t.text))/\W.cell? ⟨w.heap.size,3,none⟩=some (.int .i64 t.a)/\W.cell? ⟨w.heap.size,4,none⟩=some (.int .i64 t.b)/\W.cell? ⟨w.heap.size,5,none⟩=some (.slice qk t.kids.length dk)/\W.cell? ⟨K.heap.size,4,none⟩=some (.int .u8 (r0:Nat))/\W.cell? ⟨K.heap.size,5,none⟩=some (.int .u8 (r1:Nat))/\W.cell? ⟨K.heap.size,6,none⟩=some (.int .u8 (r2:Nat))) (first
      | assumption|go_keep) (first
      | (go_at_call 103;refine (e1.o 1 U wr.drew nr _ (O.o.next (Jh _ _).drew) (by have:=Z.o;omega) (d.o.then (Jh _ _).drew)).mono ?_;rw[HV.o];rintro e w9 ⟨rfl,I⟩;have E:Hid (O6 wr w9 kb sb fb gb nr S F T vS vF (.slice pt T.length ct) v5 1):=O6.after I (Jh _ _).drew;have e6:=V.o w9 (by obtain⟨n7,g7,-,-,h7⟩:=E.o;exact d.o.trans h7);clear I))
     all_goals (go_wp2;go_roundw)
     all_goals (try (case rel=>exact⟨1+1,by omega,by go_num,HR.o,b9.o _ E.o⟩))
     all_goals (try (case measure=>simp[intOf];omega))
    have r5:min (k:Int) 2=2:=by omega
    have l6:Rule.role ⟨la,le,mo,so,r0,r1,r2⟩ k=r2:=by unfold Rule.role;rw[if_neg (by omega),if_neg (by omega)]
    have n5:=Hd l6;have g2:Hid (∀ W n' gg,BK W kb sb fb gb n' S F T vS vF (.slice pt T.length ct) v5 gg->n'<=1000000000->Bar gb W3 W->Calls prog 103 #[.pointer (some ⟨kb,0,none⟩),.int .u8 (r2:Nat),.agg #[.int .i64 t.op,.string (Oo t.sort),.string (Oo t.text),.int .i64 t.a,.int .i64 t.b,.slice qk t.kids.length dk],.int .i64 (k:Nat)] W fun e w'=>e=.returned (.bool (Kg (Ov (Oh (Og S))) F (Oq F) T t (Rule.role ⟨la,le,mo,so,r0,r1,r2⟩ k) k))/\O6 W w' kb sb fb gb n' S F T vS vF (.slice pt T.length ct) v5 1):=fun W n' gg h1 h2 h3=>by
     have h:=e1.o k U W n' gg h1 h2 h3;rw[n5.o] at h ⊢;exact h
    clear l6
    cases Y:Kg (Ov (Oh (Og S))) F (Oq F) T t (Rule.role ⟨la,le,mo,so,r0,r1,r2⟩ k) k
    ·have HV:=Hd Y;have G:=Hd (h9.o Y);clear Y
     go_wp2
     go_region_held3 (fun W=>W.cell? ⟨w.heap.size,0,none⟩=some (.int .i64 t.op)/\W.cell? ⟨w.heap.size,1,none⟩=some (.string (Oo t.sort))/\W.cell? ⟨w.heap.size,2,none⟩=some (.string (Oo t.text))/\W.cell? ⟨w.heap.size,3,none⟩=some (.int .i64 t.a)/\W.cell? ⟨w.heap.size,4,none⟩=some (.int .i64 t.b)/\W.cell? ⟨w.heap.size,5,none⟩=some (.slice qk t.kids.length dk)/\W.cell? ⟨K.heap.size,4,none⟩=some (.int .u8 (r0:Nat))/\W.cell? ⟨K.heap.size,5,none⟩=some (.int .u8 (r1:Nat))/\W.cell? ⟨K.heap.size,6,none⟩=some (.int .u8 (r2:Nat))) (first
      | assumption|go_keep) (first
      | (go_at_call 103;refine (g2.o wr.drew nr _ (O.o.next (Jh _ _).drew) (by have:=Z.o;omega) (d.o.then (Jh _ _).drew)).mono ?_;rw[HV.o];rintro e w9 ⟨rfl,I⟩;have E:Hid (O6 wr w9 kb sb fb gb nr S F T vS vF (.slice pt T.length ct) v5 1):=O6.after I (Jh _ _).drew;have e6:=V.o w9 (by obtain⟨n7,g7,-,-,h7⟩:=E.o;exact d.o.trans h7);clear I))
     all_goals (go_wp2;go_ret;exact⟨Oz G.o.symm,d9.o _ E.o⟩)
    have HV:=Hd Y;have HR:=Hd (e3.o Y);clear Y
    go_wp2
    go_region_held3 (fun W=>W.cell? ⟨w.heap.size,0,none⟩=some (.int .i64 t.op)/\W.cell? ⟨w.heap.size,1,none⟩=some (.string (Oo t.sort))/\W.cell? ⟨w.heap.size,2,none⟩=some (.string (Oo t.text))/\W.cell? ⟨w.heap.size,3,none⟩=some (.int .i64 t.a)/\W.cell? ⟨w.heap.size,4,none⟩=some (.int .i64 t.b)/\W.cell? ⟨w.heap.size,5,none⟩=some (.slice qk t.kids.length dk)/\W.cell? ⟨K.heap.size,4,none⟩=some (.int .u8 (r0:Nat))/\W.cell? ⟨K.heap.size,5,none⟩=some (.int .u8 (r1:Nat))/\W.cell? ⟨K.heap.size,6,none⟩=some (.int .u8 (r2:Nat))) (first
     | assumption|go_keep) (first
     | (go_at_call 103;refine (g2.o wr.drew nr _ (O.o.next (Jh _ _).drew) (by have:=Z.o;omega) (d.o.then (Jh _ _).drew)).mono ?_;rw[HV.o];rintro e w9 ⟨rfl,I⟩;have E:Hid (O6 wr w9 kb sb fb gb nr S F T vS vF (.slice pt T.length ct) v5 1):=O6.after I (Jh _ _).drew;have e6:=V.o w9 (by obtain⟨n7,g7,-,-,h7⟩:=E.o;exact d.o.trans h7);clear I))
    all_goals (go_wp2;go_roundw)
    all_goals (try (case rel=>exact⟨k+1,by omega,by go_num,HR.o,b9.o _ E.o⟩))
    all_goals (try (case measure=>simp[intOf];omega))
   have G:Hid (J=true):=by
    unfold Hid;rw[k0.o,Ju];intro p hp;have:=Y6.1 hp;exact j7.o p (by omega)
   have HA:Hid (O6 w wr kb sb fb gb n S F T vS vF (.slice pt T.length ct) v5 60):=⟨nr,gr,by have:=Z.o;omega,O.o,(Bar.of A.o).trans d.o⟩;have z5:¬ (k:Int)<(t.kids.length:Int):=by omega
   go_wp2
   go_ret
   exact⟨Oz G.o.symm,HA.o⟩
def K2 (ks:List Int):List UInt8:=ks.flatMap (fun x=>[UInt8.ofNat (x.toNat / 256),UInt8.ofNat x.toNat])
def CT (l:List UInt8):List Value:=l.map (fun c=>.int .u8 (c.toNat:Nat))
theorem YZ {ks:List Int}{k:Nat}(h:k<ks.length):K2 (ks.take (k+1))=K2 (ks.take k)++[UInt8.ofNat (ks[k].toNat / 256),UInt8.ofNat ks[k].toNat]:=by
 unfold K2;rw[Yd h,V3];simp
theorem Mp (ks:List Int):(K2 ks).length=2*ks.length:=by
 induction ks with
 | nil=>rfl
 | cons x r ih=>unfold K2 at ih ⊢;simp only[Uf,Y8,Yo,Zh,ih];omega
theorem XY:(prog.info? 5).map (fun i=>(i.zero,i.size,i.bytes))=some (some (.int .u8 0),1,1):=by kernel_rfl
theorem Mr (t:Tm)(vk:Value)(w:World)(hk:U5 w vk t.kids)(hr:∀ x∈t.kids,0<=x/\x<65536)(hl:t.kids.length<=50) :
 Calls prog 85 #[Ie t vk] w fun e w'=>e=.returned (.agg #[.int .i64 t.op,.string (Oo t.sort),.string (Oo t.text),.int .i64 t.a,.int .i64 t.b,.string (Oo (K2 t.kids))])/\Up w w':=by
 obtain⟨qk,dk,rfl,i7,g4,d3⟩:=hk;have HK:=Hd d3;have HR:=Hd hr;unfold maxLen at g4;obtain⟨i0,V,g2,d2,g3⟩:=info_parts XY;clear d3 hr;unfold Ie
 go_in
 go_wp2_with (at_make;refine wpList_make_own _ rfl _ _ 127 rfl (w.heap.size+2) 5 i0 (.int .u8 0) 1 underlying127 V g2 d2 .i64 .i64 _ 100 rfl rfl ?m1 ?m2 ?m3 ?m4 ?_)
 case m1=>decide
 case m2=>rw[g3];decide
 case m3=>unfold maxLen;decide
 case m4=>simp
 intro w2 I d;have b4:Hid (Up w ((w.alloc (.cells #[.int .i64 t.op,.string (Oo t.sort),.string (Oo t.text),.int .i64 t.a,.int .i64 t.b,.slice qk t.kids.length dk] 57)).alloc (.cells #[.int .i64 0,.string ⟨#[]⟩,.string ⟨#[]⟩,.int .i64 0,.int .i64 0,.string ⟨#[]⟩] 115))):=((Jh _ _).alloc Of _).alloc (by rw[Ji];omega) _;have K:Hid (Below (w.heap.size+2) ((w.alloc (.cells #[.int .i64 t.op,.string (Oo t.sort),.string (Oo t.text),.int .i64 t.a,.int .i64 t.b,.slice qk t.kids.length dk] 57)).alloc (.cells #[.int .i64 0,.string ⟨#[]⟩,.string ⟨#[]⟩,.int .i64 0,.int .i64 0,.string ⟨#[]⟩] 115)) w2):=⟨d.os,d.tape,d.output,d.size,fun k hk=>d.block k (by simp;omega) (fun e=>by cases e)⟩;have b9:Hid (Bx w2 w.heap.size [.int .i64 t.op,.string (Oo t.sort),.string (Oo t.text),.int .i64 t.a,.int .i64 t.b,.slice qk t.kids.length dk]):=((Oi w _ _).alloc _).bl (N:=w.heap.size+2) (by omega) K.o;have e8:Hid (Bx w2 (w.heap.size+1) [.int .i64 0,.string ⟨#[]⟩,.string ⟨#[]⟩,.int .i64 0,.int .i64 0,.string ⟨#[]⟩]):=by
  have h:=Oi (w.alloc (.cells #[.int .i64 t.op,.string (Oo t.sort),.string (Oo t.text),.int .i64 t.a,.int .i64 t.b,.slice qk t.kids.length dk] 57)) [.int .i64 0,.string ⟨#[]⟩,.string ⟨#[]⟩,.int .i64 0,.int .i64 0,.string ⟨#[]⟩] 115;rw[Ji] at h;exact h.bl (N:=w.heap.size+2) (by omega) K.o
 have d9:Hid (Up w w2):=b4.o.trans (K.o.mono (by omega));have b8:Hid (w.heap.size+2<=w2.heap.size):=by have:=d.size;simp at this;unfold Hid;omega
 have b6:=Hd I;clear I d b4;obtain⟨N,hN⟩:=O1 (w.heap.size+2);have c6:w.heap.size+1+1=N:=by omega
 rw[hN] at b6 b8 K;rw[c6];have HN:=Hd hN;have t5:=b9.o.cell 5;simp only[Jo,Jr] at t5;clear hN c6
 go_wp2_with fail
 clear t5
 go_loopw [3,10] (fun v i wr=>∃ k:Nat,k<=t.kids.length/\i=.int .i64 (k:Nat)/\v=.slice (some ⟨N,0,none⟩) (2*k) 100/\wr.ownsRow N 5 1 (.slice (some ⟨N,0,none⟩) (2*k) 100) (2*k) (CT (K2 (t.kids.take k)))/\Below N w2 wr) (fun _ i _=>t.kids.length - (intOf i).toNat)
 case atStart=>exact⟨0,Jy _,rfl,rfl,b6.o,Jh _ _⟩
 obtain⟨k,hk,rfl,rfl,Y,Z⟩:=hrel;have A:=Hd Y;have M:=Hd Z;have b5:Hid (Up w wr):=d9.o.trans (Z.mono (by have:=HN.o;omega));clear Y Z
 by_cases G:k<t.kids.length
 ·rcases HK.o with e0|⟨bq,rfl,f9,c8⟩
  ·rw[e0] at G;cases G
  have cx:=(b5.o.cell (p:=⟨bq,k,none⟩) f9).trans (c8 k G);clear c8;have hx:=HR.o _ (Jw G);have b7:=Hd (YZ G);obtain⟨y,hy⟩:∃ y:Nat,t.kids[k]=(y:Int):=⟨t.kids[k].toNat,by omega⟩;rw[hy] at cx hx b7;clear hy;have e9:=Hd hx;clear hx;have i6:(0:Int)<=(k:Int):=by omega
  have i1:(k:Int)<(t.kids.length:Int):=by omega
  have d7:Hid ((wr.alloc (.cells #[.int .u8 ((y:Int) / 256 % 256),.int .u8 ((y:Int) % 256)] 5)).ownsRow N 5 1 (.slice (some ⟨N,0,none⟩) (2*k) 100) (2*k) (CT (K2 (t.kids.take k)))):=A.o.alloc _
  go_wp2_with (at_builtin;refine wpList_append_fits _ rfl _ _ 127 rfl N 5 i0 1 underlying127 V d2 N (2*k) 100 _ rfl d7.o ⟨wr.heap.size,0,none⟩ 2 2 [.int .u8 ((y:Int) / 256 % 256),.int .u8 ((y:Int) % 256)] rfl rfl ?c0 ?c1 ?c2 ?_)
  case c0=>exact World.news_of_block (cs:=#[.int .u8 ((y:Int) / 256 % 256),.int .u8 ((y:Int) % 256)]) (t:=5) (fr:=(0,0)) (heap_alloc_new wr _)
  case c1=>intro u hu;simp at hu;rcases hu with rfl|rfl<;>rfl
  case c2=>omega
  intro w5 J U;have d8:Hid (Below N w2 w5):=Nq M.o A.o U (by have:=M.o.size;have:=b8.o;omega);have e7:Hid (w5.ownsRow N 5 1 (.slice (some ⟨N,0,none⟩) (2*(k+1)) 100) (2*(k+1)) (CT (K2 (t.kids.take (k+1))))):=by
   have hb:=e9.o;unfold Hid;rw[b7.o];have e:CT (K2 (t.kids.take k)++[UInt8.ofNat ((y:Int).toNat / 256),UInt8.ofNat (y:Int).toNat])=CT (K2 (t.kids.take k))++[.int .u8 ((y:Int) / 256 % 256),.int .u8 ((y:Int) % 256)]:=by
    unfold CT;rw[Zc];simp only[Vy,Ua,Int.toNat_natCast,UInt8.toNat_ofNat']
    congr 2
   rw[e];exact J
  clear J U
  go_wp2
  go_roundw
  case rel=>exact⟨k+1,by omega,by go_num,rfl,e7.o,d8.o⟩
  simp[intOf];omega
 obtain rfl:k=t.kids.length:=by omega
 have a7:(convert 127 9 (.slice (some ⟨N,0,none⟩) (2*t.kids.length) 100)).run prog wr=.ok (.string (Oo (K2 t.kids))) wr:=by
  have h:=A.o;rw[Yl] at h;have g0:=Mp t.kids;have:=run_convert_bytes_back (P:=prog) wr 127 9 5 ⟨N,0,none⟩ 100 (K2 t.kids) underlying127 underlying5 underlying9 (fun j hj=>by
   have:=h.cells (g:=N) rfl j (.int .u8 ((K2 t.kids)[j].toNat:Nat)) (by simp[CT,List.getElem?_eq_getElem hj]);exact this)
  rw[g0] at this;exact this
 have d0:=b9.o.bl (N:=N) (by have:=HN.o;omega) M.o;have O:=e8.o.bl (N:=N) (by have:=HN.o;omega) M.o;obtain⟨t0,t1,t2,t3,t4⟩:=d0.k5;obtain⟨r0,r1,r2,r3,r4,r5⟩:=O.k6;obtain⟨f0,f1,f2,f3,f4,f5⟩:=O.f6;have d1:=(((((O.set 0 (.int .i64 t.op)).set 1 (.string (Oo t.sort))).set 2 (.string (Oo t.text))).set 3 (.int .i64 t.a)).set 4 (.int .i64 t.b)).set 5 (.string (Oo (K2 t.kids)));have E:=Hd d1;have hq:w.heap.size<=w.heap.size+1:=by omega
 clear d0 O d1 A
 go_wp2_with fail
 have e0:=E.o.cell 0;have e1:=E.o.cell 1;have e2:=E.o.cell 2;have e3:=E.o.cell 3;have e4:=E.o.cell 4;have e5:=E.o.cell 5;simp only[Je,Jd,Jo,Jr] at e0 e1 e2 e3 e4 e5;refine Jj (v:=.agg #[.int .i64 t.op,.string (Oo t.sort),.string (Oo t.text),.int .i64 t.a,.int .i64 t.b,.string (Oo (K2 t.kids))]) ?_ rfl ⟨rfl,(((((b5.o.setCell (p:=⟨w.heap.size+1,0,none⟩) hq _).setCell (p:=⟨w.heap.size+1,1,none⟩) hq _).setCell (p:=⟨w.heap.size+1,2,none⟩) hq _).setCell (p:=⟨w.heap.size+1,3,none⟩) hq _).setCell (p:=⟨w.heap.size+1,4,none⟩) hq _).setCell (p:=⟨w.heap.size+1,5,none⟩) hq _⟩;clear t0 t1 t2 t3 t4 r0 r1 r2 r3 r4 r5 f0 f1 f2 f3 f4 f5 a7;simp[results,results85,go_sem,e0,e1,e2,e3,e4,e5]
def G8 (ks:List Int):List Value:=ks.map (Value.int .i64)
theorem Wt (vk:Value)(ks:List Int)(w:World)(hk:U5 w vk ks)(hl:ks.length<=1000000) :
 Calls prog 104 #[vk] w fun e w'=>∃ v',e=.returned v'/\w'.ownsRow w.heap.size 3 1 v' ks.length (G8 ks)/\Up w w':=by
 obtain⟨p,c,rfl,d,A,h3⟩:=hk
 rcases h3 with rfl|⟨b,rfl,hb,hc⟩
 ·cases p with
  | none=>
    refine (Tryz.slices_Clone_int_nil 0 c w).mono ?_;rintro e w' ⟨rfl,rfl⟩;exact⟨_,rfl,⟨rfl,.inl ⟨rfl,rfl⟩⟩,Jh _ _⟩
  | some a=>
    refine (Tryz.slices_Clone_int_zero a c w).mono ?_;rintro e w' ⟨v',rfl,h,-,hb⟩;exact⟨v',rfl,h,hb⟩
 refine (Tryz.slices_Clone_int b 0 ks.length c ks w Of (by omega) (fun j hj=>?_)).mono ?_
 ·rw[Y4,hc j hj];simp[List.getD,List.getElem?_eq_getElem hj]
 rintro e w' ⟨v',rfl,h,-,hb⟩;rw[Yl] at h;exact⟨v',rfl,h,hb⟩
theorem E7 {w:World}{base base':Nat}{e:TypeId}{size:Nat}{v:Value}{n:Nat}{xs:List Value}(h:w.ownsRow base e size v n xs)(hb:base'<=base):w.ownsRow base' e size v n xs:=by
 refine⟨h.1,?_⟩
 rcases h.2 with j|⟨g,cap,d,e,A,h3⟩
 ·exact .inl j
 exact .inr ⟨g,cap,d,e,Yk hb A,h3⟩
theorem Br (t:Tm)(vk:Value)(w:World)(hk:U5 w vk t.kids)(hl:t.kids.length<=1000000)(hts:t.sort.length<=1048576)(htx:t.text.length<=1048576) :
 Calls prog 86 #[Ie t vk] w fun e w'=>∃ p n c,e=.returned (Ie t (.slice p n c))/\w'.ownsRow w.heap.size 3 1 (.slice p n c) t.kids.length (G8 t.kids)/\Up w w':=by
 have HI:=Hd hk;obtain⟨qk,dk,rfl,e6,e7,-⟩:=hk;clear e6 e7;have d8:(Oo t.sort).size<=1048576:=by show t.sort.toArray.size<=_;simpa using hts
 have d9:(Oo t.text).size<=1048576:=by show t.text.toArray.size<=_;simpa using htx
 unfold Ie
 go_in
 go_wp2_with fail
 obtain⟨W1,I⟩:=O1 ((w.alloc (.cells #[.int .i64 t.op,.string (Oo t.sort),.string (Oo t.text),.int .i64 t.a,.int .i64 t.b,.slice qk t.kids.length dk] 57)).alloc (.cells #[.int .i64 0,.string ⟨#[]⟩,.string ⟨#[]⟩,.int .i64 0,.int .i64 0,.slice none 0 0] 57));have b3:Hid (Up w W1):=by unfold Hid;rw[<-I];exact ((Jh _ _).alloc Of _).alloc (by rw[Ji];omega) _
 have b7:Hid (W1.heap.size=w.heap.size+2):=by unfold Hid;rw[<-I];simp
 have j:Hid (Bx W1 w.heap.size [.int .i64 t.op,.string (Oo t.sort),.string (Oo t.text),.int .i64 t.a,.int .i64 t.b,.slice qk t.kids.length dk]):=by unfold Hid;rw[<-I];exact (Oi w _ _).alloc _
 have A:Hid (Bx W1 (w.heap.size+1) [.int .i64 0,.string ⟨#[]⟩,.string ⟨#[]⟩,.int .i64 0,.int .i64 0,.slice none 0 0]):=by unfold Hid;rw[<-I];have h:=Oi (w.alloc (.cells #[.int .i64 t.op,.string (Oo t.sort),.string (Oo t.text),.int .i64 t.a,.int .i64 t.b,.slice qk t.kids.length dk] 57)) [.int .i64 0,.string ⟨#[]⟩,.string ⟨#[]⟩,.int .i64 0,.int .i64 0,.slice none 0 0] 57;rw[Ji] at h;exact h
 rw[I];clear I;refine (K9 (Oo t.sort) _ d8).mono ?_;rintro e w2 ⟨rfl,J⟩;have d:=Hd (j.o.bl j.o.lt J);have E:=Hd (A.o.bl A.o.lt J);have b4:=b3.up J;have d5:Hid (w.heap.size+2<=w2.heap.size):=by have:=J.size;have:=b7.o;unfold Hid;omega
 clear J j A b3 b7;have a1:=d.o.cell 1;have a2:=d.o.cell 2;simp only[Jo,Jr] at a1 a2;have f1:=d.o.fz 1;have l0:w.heap.size≠w.heap.size+1:=by omega
 go_wp2_with fail
 have j:Hid (Bx (w2.setCell ⟨w.heap.size,1,none⟩ (.string (Oo t.sort))) w.heap.size [.int .i64 t.op,.string (Oo t.sort),.string (Oo t.text),.int .i64 t.a,.int .i64 t.b,.slice qk t.kids.length dk]):=d.o.set 1 _;have A:=Hd (E.o.other ⟨w.heap.size,1,none⟩ (by simp) (.string (Oo t.sort)));have U:Hid (Up w (w2.setCell ⟨w.heap.size,1,none⟩ (.string (Oo t.sort)))):=b4.o.sc;have b8:Hid (w.heap.size+2<=(w2.setCell ⟨w.heap.size,1,none⟩ (.string (Oo t.sort))).heap.size):=by have:=d5.o;unfold Hid;simp[World.setCell];omega
 clear a1 a2 f1 d E;generalize w2.setCell ⟨w.heap.size,1,none⟩ (.string (Oo t.sort))=W3 at j A U b8 ⊢;refine (K9 (Oo t.text) _ d9).mono ?_;rintro e w4 ⟨rfl,K⟩;have d:=Hd (j.o.bl j.o.lt K);have E:=Hd (A.o.bl A.o.lt K);have b5:=U.up K;have d6:Hid (w.heap.size+2<=w4.heap.size):=by have:=K.size;have:=b8.o;unfold Hid;omega
 clear K j A U b4;have a2:=d.o.cell 2;have a5:=d.o.cell 5;simp only[Jo,Jr] at a2 a5;have f2:=d.o.fz 2
 go_wp2_with fail
 have j:Hid (Bx (w4.setCell ⟨w.heap.size,2,none⟩ (.string (Oo t.text))) w.heap.size [.int .i64 t.op,.string (Oo t.sort),.string (Oo t.text),.int .i64 t.a,.int .i64 t.b,.slice qk t.kids.length dk]):=d.o.set 2 _;have A:=Hd (E.o.other ⟨w.heap.size,2,none⟩ (by simp) (.string (Oo t.text)));have M:Hid (Up w (w4.setCell ⟨w.heap.size,2,none⟩ (.string (Oo t.text)))):=b5.o.sc;have b9:Hid (w.heap.size+2<=(w4.setCell ⟨w.heap.size,2,none⟩ (.string (Oo t.text))).heap.size):=by have:=d6.o;unfold Hid;simp[World.setCell];omega
 clear a2 a5 f2 d E;generalize w4.setCell ⟨w.heap.size,2,none⟩ (.string (Oo t.text))=W5 at j A M b9 ⊢;refine (Wt _ t.kids _ (HI.o.bl M.o) hl).mono ?_;rintro e w6 ⟨v6,rfl,G,O⟩;obtain⟨Y,V,rfl⟩:=En G;have d:=Hd (j.o.bl j.o.lt O);have E:=Hd (A.o.bl A.o.lt O);have d3:=M.up O;have b6:Hid (w6.ownsRow (w.heap.size+2) 3 1 (.slice Y t.kids.length V) t.kids.length (G8 t.kids)):=by
  refine⟨G.1,?_⟩
  rcases G.2 with h0|⟨g,cap,d7,e,hg,h3⟩
  ·exact .inl h0
  exact .inr ⟨g,cap,d7,e,by have:=b9.o;omega,h3⟩
 clear O j A M b5 G;obtain⟨a0,a1,a2,a3,a4,a5⟩:=d.o.k6;obtain⟨r0,r1,r2,r3,r4,r5⟩:=E.o.k6;have f5:=d.o.fz 5;obtain⟨g0,g1,g2,g3,g4,g5⟩:=E.o.f6;have hq:w.heap.size<=w.heap.size+1:=by omega
 have Z:=Hd ((((((((E.o.other ⟨w.heap.size,5,none⟩ (by simp) (.slice Y t.kids.length V)).set 0 (.int .i64 t.op)).set 1 (.string (Oo t.sort))).set 2 (.string (Oo t.text))).set 3 (.int .i64 t.a)).set 4 (.int .i64 t.b)).set 5 (.slice Y t.kids.length V)));have d4:=Hd ((((((((d3.o.setCell (p:=⟨w.heap.size,5,none⟩) Of (.slice Y t.kids.length V)).setCell (p:=⟨w.heap.size+1,0,none⟩) hq (.int .i64 t.op)).setCell (p:=⟨w.heap.size+1,1,none⟩) hq (.string (Oo t.sort))).setCell (p:=⟨w.heap.size+1,2,none⟩) hq (.string (Oo t.text))).setCell (p:=⟨w.heap.size+1,3,none⟩) hq (.int .i64 t.a)).setCell (p:=⟨w.heap.size+1,4,none⟩) hq (.int .i64 t.b)).setCell (p:=⟨w.heap.size+1,5,none⟩) hq (.slice Y t.kids.length V)))
 go_wp2_with fail
 have e0:=Z.o.cell 0;have e1:=Z.o.cell 1;have e2:=Z.o.cell 2;have e3:=Z.o.cell 3;have e4:=Z.o.cell 4;have e5:=Z.o.cell 5;simp only[Je,Jd,Jo,Jr] at e0 e1 e2 e3 e4 e5;refine Jj (v:=.agg #[.int .i64 t.op,.string (Oo t.sort),.string (Oo t.text),.int .i64 t.a,.int .i64 t.b,.slice Y t.kids.length V]) ?_ rfl ⟨Y,t.kids.length,V,rfl,E7 (Ox b6.o (fun g hg=>?_)) (by omega),d4.o⟩
 ·clear a0 a1 a2 a3 a4 a5 r0 r1 r2 r3 r4 r5 f5 g0 g1 g2 g3 g4 g5;simp[results,results86,go_sem,e0,e1,e2,e3,e4,e5]
 have i6:=Ot b6.o g hg;have n1:g≠w.heap.size+1:=by omega
 have n0:g≠w.heap.size:=by omega
 rw[Jq _ _ _ _ n1,Jq _ _ _ _ n1,Jq _ _ _ _ n1,Jq _ _ _ _ n1,Jq _ _ _ _ n1,Jq _ _ _ _ n1,Jq _ _ _ _ n0]
end Go.Proofs.YtipgjenolpofpaaGreatDoor
