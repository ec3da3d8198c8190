import Derived.Test.YtdmdmgfjpomdbaaGreatDoorP00
import Derived.Test.YtdmdmgfjpomdbaaGreatDoorP30
import Derived.OwnWalk
set_option maxRecDepth 100000
set_option maxHeartbeats 16000000
namespace Go.Proofs.YtdmdmgfjpomdbaaGreatDoor
open ChangeShapes WideShapes ChangeAt RowKit Proofs.Tryz
variable {r:Rule}
theorem ND {o:Int}(h:E5 o=some r):1<=o/\o<=47:=by
 by_cases d:1<=o/\o<=47
 ·exact d
 rw[Mj d] at h;cases h
theorem Rv {o:Int}(h:E5 o=some r):r∈rules:=by
 unfold E5 at h
 split at h
 ·cases h
 exact List.mem_of_find?_eq_some h
theorem KD {o:Int}(h:E5 o=some r):r.least=Ko o/\r.most<=50:=by
 refine⟨?_,(Xi r (Rv h)).2.2.1⟩
 rcases NR (ND h) with rfl|rfl|rfl|rfl|rfl|rfl|rfl|rfl|rfl|rfl|rfl|rfl|rfl|rfl|rfl|rfl|rfl|rfl|rfl|rfl|rfl|rfl|rfl|rfl|rfl|rfl|rfl|rfl|rfl|rfl|rfl|rfl|rfl|rfl|rfl|rfl|rfl|rfl|rfl|rfl|rfl|rfl|rfl|rfl|rfl|rfl|rfl
 all_goals (cases h;rfl)
theorem LR {o:Int}(h:E5 o=some r)(p:Nat)(hp:r.role p=14):o=11:=by
 rcases NR (ND h) with rfl|rfl|rfl|rfl|rfl|rfl|rfl|rfl|rfl|rfl|rfl|rfl|rfl|rfl|rfl|rfl|rfl|rfl|rfl|rfl|rfl|rfl|rfl|rfl|rfl|rfl|rfl|rfl|rfl|rfl|rfl|rfl|rfl|rfl|rfl|rfl|rfl|rfl|rfl|rfl|rfl|rfl|rfl|rfl|rfl|rfl|rfl
 all_goals (cases h;first|rfl|(exfalso;unfold Rule.role at hp;simp only at hp;split at hp;omega;split at hp<;>omega))
theorem KX {o:Int}(h:E5 o=some r)(p:Nat):r.role p<=20:=by
 have:=Xi r (Rv h);unfold Rule.role
 split
 ·omega
 split<;>omega
theorem EQ {rd:List UInt8->SI}{num:Tm->Bool}{F:List Fn}{f2:List UInt8->Option Nat}{T:List Tm}{t:Tm}(h:E5 t.op=some r):Hy rd num F f2 T t=(decide (r.least<=t.kids.length/\t.kids.length<=r.most)&&Xp T.length t&&O7 r.sort (rd t.sort).kind&&Ht t&&asked rd num F f2 T t&&(List.range t.kids.length).all (fun p=>Km rd F f2 T t (r.role p) p)):=by
 unfold Hy;rw[h]
theorem Qf {w:World}{kb sb fb gb n:Nat}{S:List (List UInt8)}{F:List Fn}{T:List Tm}{vS vF vT v5:Value}{g:List UInt8->Option SI}(h:BK w kb sb fb gb n S F T vS vF vT v5 g)(t:Tm)(vk:Value)(hk:Kg w vk t.kids)(num:Tm->Bool)(hT:T.length<=1000000)(hl:t.kids.length<=1048576)(hF:F.length<=1000)(hz:∀ u∈T,u.sort.length<=1048576)(hts:t.sort.length<=1048576)(htx:t.text.length<=1048576)(hn:n<=800000000)
 (hnum:t.op=12->((Ov (Oc (Oq S)) t.sort).kind=2∨(Ov (Oc (Oq S)) t.sort).kind=3)->∀ W,Bar gb w W->Calls prog 110 #[.string (Oo t.sort),.string (Oo t.text)] W fun e w'=>e=.returned (.bool (num t))/\Up W w') :
 Calls prog 75 #[.pointer (some ⟨kb,0,none⟩),Xz t vk] w fun e w'=>e=.returned (.bool (Hy (Ov (Oc (Oq S))) num F (Od F) T t))/\O8 w w' kb sb fb gb n S F T vS vF vT v5 60:=by
 obtain⟨qk,dk,rfl,p2,l7,j3⟩:=hk;have HH:=Hd h;have HI:Hid (Kg w (.slice qk t.kids.length dk) t.kids):=⟨qk,dk,rfl,p2,l7,j3⟩;have HK:=Hd j3;have HZ:=Hd hz;have j6:=Hd hnum;unfold maxLen at l7;clear h j3 hz hnum;have p0:(Oo t.sort).size<=1048576:=by show t.sort.toArray.size<=_;simpa using hts
 have HB:Hid (Up w (w.alloc (.cells #[.int .i64 t.op,.string (Oo t.sort),.string (Oo t.text),.int .i64 t.a,.int .i64 t.b,.slice qk t.kids.length dk] 55))):=Oz _ _;have e7:Hid (Bx (w.alloc (.cells #[.int .i64 t.op,.string (Oo t.sort),.string (Oo t.text),.int .i64 t.a,.int .i64 t.b,.slice qk t.kids.length dk] 55)) w.heap.size [.int .i64 t.op,.string (Oo t.sort),.string (Oo t.text),.int .i64 t.a,.int .i64 t.b,.slice qk t.kids.length dk]):=Oi _ _ _;obtain⟨J,e4⟩:=Oa (Hy (Ov (Oc (Oq S))) num F (Od F) T t);rw[e4];have g3:=Hd e4;clear e4;unfold Xz
 go_in
 go_wp2_with fail
 refine (KP t.op _ (HH.o.next HB.o).rt).mono ?_
 cases a7:E5 t.op with
 | none=>
   have G:Hid (J=false):=by unfold Hid;rw[<-g3.o];unfold Hy;rw[a7]
   clear a7;rintro e w2 ⟨rfl,hb2⟩;have d3:=HB.up hb2;have h0:=e7.o.bl e7.o.lt hb2;have t5:=h0.cell 5;simp only[Jm,Js] at t5;clear hb2 h0;have A:Hid (Up w (w2.alloc (.cells #[.int .u8 0,.int .u8 0,.int .u8 0,.int .u8 0,.int .u8 0,.int .u8 0,.int .u8 0] 125))):=d3.o.alloc d3.o.size _;simp only[Option.getD_none,Option.isSome_none];unfold Dh A8
   go_wp2
   go_ret
   exact⟨Oy G.o.symm,O8.of HH.o A.o 60⟩
 | some r=>
   have e9:=Hd a7;have HT:Hid (J=(decide (r.least<=t.kids.length/\t.kids.length<=r.most)&&Xp T.length t&&O7 r.sort (Ov (Oc (Oq S)) t.sort).kind&&Ht t&&asked (Ov (Oc (Oq S))) num F (Od F) T t&&(List.range t.kids.length).all (fun p=>Km (Ov (Oc (Oq S))) F (Od F) T t (r.role p) p))):=by unfold Hid;rw[<-g3.o,EQ a7]
   obtain⟨o3,o4,o5,o6,o7,o8,o9⟩:=Xi r (Rv a7);clear a7;rintro e w2 ⟨rfl,hb2⟩;have d3:=HB.up hb2;have HY:=Hd (e7.o.bl e7.o.lt hb2);have q9:w.heap.size<w2.heap.size:=HY.o.lt;clear hb2;simp only[Us,Option.isSome_some];obtain⟨la,le,mo,so,r0,r1,r2⟩:=r;simp only at HT o3 o4 o5 o6 o7 o8 o9;have A:Hid (Up w (w2.alloc (.cells #[.int .u8 (la:Nat),.int .u8 (le:Nat),.int .u8 (mo:Nat),.int .u8 (so:Nat),.int .u8 (r0:Nat),.int .u8 (r1:Nat),.int .u8 (r2:Nat)] 125))):=d3.o.alloc d3.o.size _;have k1:=Hd (HY.o.alloc (.cells #[.int .u8 (la:Nat),.int .u8 (le:Nat),.int .u8 (mo:Nat),.int .u8 (so:Nat),.int .u8 (r0:Nat),.int .u8 (r1:Nat),.int .u8 (r2:Nat)] 125));have k7:Hid (Bx (w2.alloc (.cells #[.int .u8 (la:Nat),.int .u8 (le:Nat),.int .u8 (mo:Nat),.int .u8 (so:Nat),.int .u8 (r0:Nat),.int .u8 (r1:Nat),.int .u8 (r2:Nat)] 125)) w2.heap.size [.int .u8 (la:Nat),.int .u8 (le:Nat),.int .u8 (mo:Nat),.int .u8 (so:Nat),.int .u8 (r0:Nat),.int .u8 (r1:Nat),.int .u8 (r2:Nat)]):=Oi _ _ _;unfold Dh
   go_upto_region 2 with fail
   obtain⟨W3,l0⟩:=Oa (w2.alloc (.cells #[.int .u8 (la:Nat),.int .u8 (le:Nat),.int .u8 (mo:Nat),.int .u8 (so:Nat),.int .u8 (r0:Nat),.int .u8 (r1:Nat),.int .u8 (r2:Nat)] 125));rw[l0] at A k1 k7 ⊢;clear l0;obtain⟨t0,t1,t2,t3,t4,t5⟩:=k1.o.k6;obtain⟨c0,c1,c2,c3,c4,c5,c6⟩:=k7.o.c7;have d0:Hid (∀ W,Up w W->O8 w W kb sb fb gb n S F T vS vF vT v5 60):=fun W hW=>O8.of HH.o hW 60;have v1:(le:Int)<=255:=by omega
   have v2:(mo:Int)<=255:=by omega
   have v3:(so:Int)<=255:=by omega
   by_cases l1:t.kids.length<le
   ·have G:Hid (J=false):=by unfold Hid;rw[HT.o,Jc (by omega)];rfl
    go_wp2
    go_ret
    exact⟨Oy G.o.symm,d0.o _ A.o⟩
   by_cases l2:mo<t.kids.length
   ·have G:Hid (J=false):=by unfold Hid;rw[HT.o,Jc (by omega)];rfl
    have l8:le<=t.kids.length:=by omega
    go_wp2
    go_ret
    exact⟨Oy G.o.symm,d0.o _ A.o⟩
   have i7:Hid (J=(Xp T.length t&&O7 so (Ov (Oc (Oq S)) t.sort).kind&&Ht t&&asked (Ov (Oc (Oq S))) num F (Od F) T t&&(List.range t.kids.length).all (fun p=>Km (Ov (Oc (Oq S))) F (Od F) T t (Rule.role ⟨la,le,mo,so,r0,r1,r2⟩ p) p))):=by unfold Hid;rw[HT.o,Ja (by omega),Zd]
   have l8:le<=t.kids.length:=by omega
   have s1:t.kids.length<=mo:=by omega
   have p9:t.kids.length<=50:=by omega
   clear HT l1 l2
   go_cut [35] (fun s35 wx=>s35=.bool false/\W3=wx)
   case first=>
    go_wp2
    go_meet
    exact⟨by rw[Jc (by omega),Jc (by omega)];rfl,rfl⟩
   obtain⟨rfl,rfl⟩:=hcut;obtain⟨pt,ct,rfl,s2,p3,-⟩:=HH.o.tr;unfold maxLen at p3;have a2:=(HH.o.next A.o).box.c7.2.2.1
   go_wp2
   go_loopw [39] (fun i wr=>∃ k:Nat,k<=t.kids.length/\i=.int .i64 (k:Nat)/\(∀ j (h:j<t.kids.length),j<k->0<=t.kids[j]/\t.kids[j]<(T.length:Int))/\W3=wr) (fun i _=>t.kids.length - (intOf i).toNat)
   case atStart=>exact⟨0,Jr _,rfl,fun j _ h=>absurd h (J2 _),rfl⟩
   obtain⟨k,hk,rfl,hp,p1⟩:=hrel;subst p1;have HP:=Hd hp;clear hp
   by_cases O:k<t.kids.length
   ·rcases HK.o with e0|⟨bq,rfl,o1,l3⟩
    ·rw[e0] at O;cases O
    have cx:=(A.o.cell (p:=⟨bq,k,none⟩) o1).trans (l3 k O);clear l3;have i0:(0:Int)<=(k:Int):=by omega
    have i1:(k:Int)<(t.kids.length:Int):=by omega
    by_cases hx:0<=t.kids[k]/\t.kids[k]<(T.length:Int)
    ·have n8:=Hd hx;obtain⟨y,hy⟩:∃ y:Nat,t.kids[k]=(y:Int):=⟨t.kids[k].toNat,by omega⟩;rw[hy] at cx hx;clear hy;have i2:(y:Int)<(T.length:Int):=by omega
     have i6:y<T.length:=by omega
     go_wp2
     go_roundw
     case rel=>exact⟨k+1,by omega,by go_num,fun j hj h2=>by
      rcases J1.1 h2 with h|rfl
      ·exact HP.o j hj h
      exact n8.o,trivial⟩
     simp[intOf];omega
    have G:Hid (J=false):=by
     unfold Hid;have:Xp T.length t=false:=by
      unfold Xp;rw[J8];intro h;exact hx (by simpa using Jt.1 h t.kids[k] (Jo O))
     rw[i7.o,this];rfl
    generalize t.kids[k]=x at cx hx
    by_cases r6:x<0
    ·clear hx
     go_wp2
     go_ret
     exact⟨Oy G.o.symm,d0.o _ A.o⟩
    have r7:(T.length:Int)<=x:=by omega
    clear hx
    go_wp2
    go_ret
    exact⟨Oy G.o.symm,d0.o _ A.o⟩
   have h8:Hid (Xp T.length t=true):=by
    unfold Hid Xp;rw[Jt];intro x hx;obtain⟨j,hj,rfl⟩:=J6 hx
    simpa using HP.o j hj (by omega)
   have i8:Hid (J=(O7 so (Ov (Oc (Oq S)) t.sort).kind&&Ht t&&asked (Ov (Oc (Oq S))) num F (Od F) T t&&(List.range t.kids.length).all (fun p=>Km (Ov (Oc (Oq S))) F (Od F) T t (Rule.role ⟨la,le,mo,so,r0,r1,r2⟩ p) p))):=by unfold Hid;rw[i7.o,h8.o,Zd]
   have U:Hid (∀ W,Bar gb W3 W->(W.cell? ⟨w.heap.size,0,none⟩=some (.int .i64 t.op)/\W.cell? ⟨w.heap.size,1,none⟩=some (.string (Oo t.sort))/\W.cell? ⟨w.heap.size,2,none⟩=some (.string (Oo t.text))/\W.cell? ⟨w.heap.size,3,none⟩=some (.int .i64 t.a)/\W.cell? ⟨w.heap.size,4,none⟩=some (.int .i64 t.b)/\W.cell? ⟨w.heap.size,5,none⟩=some (.slice qk t.kids.length dk)/\W.cell? ⟨w2.heap.size,4,none⟩=some (.int .u8 (r0:Nat))/\W.cell? ⟨w2.heap.size,5,none⟩=some (.int .u8 (r1:Nat))/\W.cell? ⟨w2.heap.size,6,none⟩=some (.int .u8 (r2:Nat)))):=fun W hW=>by
    have Z:=hW.keep (HH.o.next A.o).km;exact⟨Z.cell _ _ t0,Z.cell _ _ t1,Z.cell _ _ t2,Z.cell _ _ t3,Z.cell _ _ t4,Z.cell _ _ t5,Z.cell _ _ c4,Z.cell _ _ c5,Z.cell _ _ c6⟩
   have z3:¬ (k:Int)<(t.kids.length:Int):=by omega
   clear i7 hk
   go_wp2_with fail
   refine (Wy (HH.o.next A.o) (so:Nat) ⟨by omega,by omega⟩ (Oo t.sort) p0 (by omega)).mono ?_;rw[Ou]
   cases d2:O7 (so:Nat) (Ov (Oc (Oq S)) t.sort).kind
   ·have G:Hid (J=false):=by unfold Hid;rw[i8.o,d2];rfl
    clear d2;rintro e w4 ⟨rfl,f9⟩;have m7:=Hd ((f9.after A.o).more (m':=60) (by omega));clear f9
    go_wp2
    go_ret
    exact⟨Oy G.o.symm,m7.o⟩
   have j0:Hid (J=(Ht t&&asked (Ov (Oc (Oq S))) num F (Od F) T t&&(List.range t.kids.length).all (fun p=>Km (Ov (Oc (Oq S))) F (Od F) T t (Rule.role ⟨la,le,mo,so,r0,r1,r2⟩ p) p))):=by unfold Hid;rw[i8.o,d2,Zd]
   have n2:Hid (t.op=12->(Ov (Oc (Oq S)) t.sort).kind=2∨(Ov (Oc (Oq S)) t.sort).kind=3):=fun h12=>by
    have a7:=e9.o;rw[h12] at a7;have n9:so=11:=by cases a7;rfl
    rw[n9] at d2
    simpa[O7] using d2
   clear d2 i8;rintro e w4 ⟨rfl,f9⟩;obtain⟨n4,g4,j2,g5,b9⟩:=f9;have d6:=Hd g5;have d4:=Hd b9;obtain⟨t0,t1,t2,t3,t4,t5,c4,c5,c6⟩:=U.o w4 b9;clear g5 b9
   go_wp2_with fail
   refine (B3 t (.slice qk t.kids.length dk) w4).mono ?_
   cases g1:Ht t
   ·have G:Hid (J=false):=by unfold Hid;rw[j0.o,g1];rfl
    clear g1;rintro e w5 ⟨rfl,d1⟩;have m8:Hid (O8 w w5 kb sb fb gb n S F T vS vF (.slice pt T.length ct) v5 60):=(O8.comp (m:=0) j2 ((Bar.of A.o).trans d4.o) (O8.of d6.o d1 0)).more (by omega);clear d1
    go_wp2
    go_ret
    exact⟨Oy G.o.symm,m8.o⟩
   have j1:Hid (J=(asked (Ov (Oc (Oq S))) num F (Od F) T t&&(List.range t.kids.length).all (fun p=>Km (Ov (Oc (Oq S))) F (Od F) T t (Rule.role ⟨la,le,mo,so,r0,r1,r2⟩ p) p))):=by unfold Hid;rw[j0.o,g1,Zd]
   clear g1 j0;rintro e w5 ⟨rfl,d1⟩;have K:Hid (Bar gb W3 w5):=d4.o.trans (Bar.of d1);have j4:=Hd (d6.o.next d1);obtain⟨t0,t1,t2,t3,t4,t5,c4,c5,c6⟩:=U.o w5 K.o;clear d1 d6
   go_wp2_with fail
   refine (Sw j4.o t (.slice qk t.kids.length dk) ((HI.o.bl A.o).keep (K.o.keep (HH.o.next A.o).km)) h8.o num hT (by omega) hF HZ.o hts htx (by omega) (by rw[<-(KD e9.o).1];exact l8) (fun h12 W hW=>j6.o h12 (n2.o h12) W ((Bar.of A.o).trans (K.o.trans hW)))).mono ?_
   cases b4:asked (Ov (Oc (Oq S))) num F (Od F) T t
   ·have G:Hid (J=false):=by unfold Hid;rw[j1.o,b4];rfl
    clear b4;rintro e w6 ⟨rfl,g0⟩;have m9:Hid (O8 w w6 kb sb fb gb n S F T vS vF (.slice pt T.length ct) v5 60):=(O8.comp j2 ((Bar.of A.o).trans K.o) g0).more (by omega);clear g0
    go_wp2
    go_ret
    exact⟨Oy G.o.symm,m9.o⟩
   have k0:Hid (J=(List.range t.kids.length).all (fun p=>Km (Ov (Oc (Oq S))) F (Od F) T t (Rule.role ⟨la,le,mo,so,r0,r1,r2⟩ p) p)):=by unfold Hid;rw[j1.o,b4,Zd]
   have n1:Hid (∀ p,Rule.role ⟨la,le,mo,so,r0,r1,r2⟩ p=14->G4 F (Od F) t=true):=fun p hp=>by
    have o0:=LR e9.o p hp;unfold asked at b4;simp only at b4;rw[if_pos o0] at b4;exact b4
   clear b4 j1;rintro e w6 ⟨rfl,g0⟩;obtain⟨n6,g6,o2,g8,e6⟩:=g0;have n3:Hid (n6<=n+4):=by unfold Hid;omega
   have j5:=Hd g8;have d5:Hid (Bar gb W3 w6):=K.o.trans e6;obtain⟨t0,t1,t2,t3,t4,t5,c4,c5,c6⟩:=U.o w6 d5.o;clear g8 e6 o2 j2;have d8:Hid (∀ i (hi:i<t.kids.length) W n' gg,BK W kb sb fb gb n' S F T vS vF (.slice pt T.length ct) v5 gg->n'<=1000000000->Bar gb W3 W->Calls prog 94 #[.pointer (some ⟨kb,0,none⟩),.int .u8 ((Rule.role ⟨la,le,mo,so,r0,r1,r2⟩ i:Nat):Int),.agg #[.int .i64 t.op,.string (Oo t.sort),.string (Oo t.text),.int .i64 t.a,.int .i64 t.b,.slice qk t.kids.length dk],.int .i64 (i:Nat)] W fun e w'=>e=.returned (.bool (Km (Ov (Oc (Oq S))) F (Od F) T t (Rule.role ⟨la,le,mo,so,r0,r1,r2⟩ i) i))/\O8 W w' kb sb fb gb n' S F T vS vF (.slice pt T.length ct) v5 1):=fun i hi W n' gg hb hn' hbar=>
    OA hb t _ ((HI.o.bl A.o).keep (hbar.keep (HH.o.next A.o).km)) h8.o _ i (KX e9.o i) hi hT (by omega) hF HZ.o htx hn' (n1.o i)
   go_wp2_with fail
   clear t0 t1 t2 t3 t4 t5 c4 c5 c6
   go_loopw [77] (fun i wr=>∃ k:Nat,k<=t.kids.length/\i=.int .i64 (k:Nat)/\(∀ j,j<k->Km (Ov (Oc (Oq S))) F (Od F) T t (Rule.role ⟨la,le,mo,so,r0,r1,r2⟩ j) j=true)/\∃ nr gr,nr<=n+4+k/\BK wr kb sb fb gb nr S F T vS vF (.slice pt T.length ct) v5 gr/\Bar gb W3 wr) (fun i _=>t.kids.length - (intOf i).toNat)
   case atStart=>exact⟨0,Jr _,rfl,fun j h=>absurd h (J2 _),n6,g6,by have:=n3.o;omega,j5.o,d5.o⟩
   obtain⟨k,hk,rfl,l5,nr,gr,l4,g9,c8⟩:=hrel;have j7:=Hd l5;have Y:=Hd l4;have M:=Hd g9;have d:=Hd c8;have q7:=U.o wr c8;clear l5 l4 g9 c8
   by_cases O:k<t.kids.length
   ·have h9:Hid (Km (Ov (Oc (Oq S))) F (Od F) T t (Rule.role ⟨la,le,mo,so,r0,r1,r2⟩ k) k=false->J=false):=fun h=>by
     rw[k0.o,J8];intro h2;have:=Jt.1 h2 k (Y5.2 O);rw[h] at this
     cases this
    have e1:Hid (Km (Ov (Oc (Oq S))) F (Od F) T t (Rule.role ⟨la,le,mo,so,r0,r1,r2⟩ k) k=true->∀ j,j<k+1->Km (Ov (Oc (Oq S))) F (Od F) T t (Rule.role ⟨la,le,mo,so,r0,r1,r2⟩ j) j=true):=fun h j h2=>by
     rcases J1.1 h2 with h3|rfl
     ·exact j7.o j h3
     exact h
    have d7:Hid (∀ W,O8 wr W kb sb fb gb nr S F T vS vF (.slice pt T.length ct) v5 1->O8 w W kb sb fb gb n S F T vS vF (.slice pt T.length ct) v5 60):=fun W ha=>(O8.comp (m2:=4+k) (by have:=Y.o;omega) ((Bar.of A.o).trans d.o) ha).more (by omega);have b8:Hid (∀ W,O8 wr W kb sb fb gb nr S F T vS vF (.slice pt T.length ct) v5 1->∃ nr gr,nr<=n+4+(k+1)/\BK W kb sb fb gb nr S F T vS vF (.slice pt T.length ct) v5 gr/\Bar gb W3 W):=fun W ha=>by
     obtain⟨n',g',h1,h2,h3⟩:=ha;have:=Y.o;exact⟨n',g',by omega,h2,d.o.trans h3⟩
    have i1:(k:Int)<(t.kids.length:Int):=by omega
    rcases (show k=0∨k=1∨2<=k by omega) with rfl|rfl|q8
    ·have r3:min (0:Int) 2=0:=rfl
     cases V:Km (Ov (Oc (Oq S))) F (Od F) T t (Rule.role ⟨la,le,mo,so,r0,r1,r2⟩ 0) 0
     ·have HV:=Hd V;have G:=Hd (h9.o V);clear V
      go_wp2
      go_region_held3 (fun W=>W.cell? ⟨w.heap.size,0,none⟩=some (.int .i64 t.op)/\W.cell? ⟨w.heap.size,1,none⟩=some (.string (Oo t.sort))/\W.cell? ⟨w.heap.size,2,none⟩=some (.string (Oo t.text))/\W.cell? ⟨w.heap.size,3,none⟩=some (.int .i64 t.a)/\W.cell? ⟨w.heap.size,4,none⟩=some (.int .i64 t.b)/\W.cell? ⟨w.heap.size,5,none⟩=some (.slice qk t.kids.length dk)/\W.cell? ⟨w2.heap.size,4,none⟩=some (.int .u8 (r0:Nat))/\W.cell? ⟨w2.heap.size,5,none⟩=some (.int .u8 (r1:Nat))/\W.cell? ⟨w2.heap.size,6,none⟩=some (.int .u8 (r2:Nat))) (first
       | assumption|go_keep) (first
       | (go_at_call 94;refine (d8.o 0 O wr.drew nr _ (M.o.next (Je _ _).drew) (by have:=Y.o;omega) (d.o.then (Je _ _).drew)).mono ?_;rw[HV.o];rintro e w9 ⟨rfl,I⟩;have E:Hid (O8 wr w9 kb sb fb gb nr S F T vS vF (.slice pt T.length ct) v5 1):=O8.after I (Je _ _).drew;have e5:=U.o w9 (by obtain⟨n7,g7,-,-,h7⟩:=E.o;exact d.o.trans h7);clear I))
      all_goals (go_wp2;go_ret;exact⟨Oy G.o.symm,d7.o _ E.o⟩)
     have HV:=Hd V;have HR:=Hd (e1.o V);clear V
     go_wp2
     go_region_held3 (fun W=>W.cell? ⟨w.heap.size,0,none⟩=some (.int .i64 t.op)/\W.cell? ⟨w.heap.size,1,none⟩=some (.string (Oo t.sort))/\W.cell? ⟨w.heap.size,2,none⟩=some (.string (Oo t.text))/\W.cell? ⟨w.heap.size,3,none⟩=some (.int .i64 t.a)/\W.cell? ⟨w.heap.size,4,none⟩=some (.int .i64 t.b)/\W.cell? ⟨w.heap.size,5,none⟩=some (.slice qk t.kids.length dk)/\W.cell? ⟨w2.heap.size,4,none⟩=some (.int .u8 (r0:Nat))/\W.cell? ⟨w2.heap.size,5,none⟩=some (.int .u8 (r1:Nat))/\W.cell? ⟨w2.heap.size,6,none⟩=some (.int .u8 (r2:Nat))) (first
      | assumption|go_keep) (first
      | (go_at_call 94;refine (d8.o 0 O wr.drew nr _ (M.o.next (Je _ _).drew) (by have:=Y.o;omega) (d.o.then (Je _ _).drew)).mono ?_;rw[HV.o];rintro e w9 ⟨rfl,I⟩;have E:Hid (O8 wr w9 kb sb fb gb nr S F T vS vF (.slice pt T.length ct) v5 1):=O8.after I (Je _ _).drew;have e5:=U.o w9 (by obtain⟨n7,g7,-,-,h7⟩:=E.o;exact d.o.trans h7);clear I))
     all_goals (go_wp2;go_roundw)
     all_goals (try (case rel=>exact⟨0+1,by omega,by go_num,HR.o,b8.o _ E.o⟩))
     all_goals (try (case measure=>simp[intOf];omega))
    ·have r4:min (1:Int) 2=1:=rfl
     cases V:Km (Ov (Oc (Oq S))) F (Od F) T t (Rule.role ⟨la,le,mo,so,r0,r1,r2⟩ 1) 1
     ·have HV:=Hd V;have G:=Hd (h9.o V);clear V
      go_wp2
      go_region_held3 (fun W=>W.cell? ⟨w.heap.size,0,none⟩=some (.int .i64 t.op)/\W.cell? ⟨w.heap.size,1,none⟩=some (.string (Oo t.sort))/\W.cell? ⟨w.heap.size,2,none⟩=some (.string (Oo t.text))/\W.cell? ⟨w.heap.size,3,none⟩=some (.int .i64 t.a)/\W.cell? ⟨w.heap.size,4,none⟩=some (.int .i64 t.b)/\W.cell? ⟨w.heap.size,5,none⟩=some (.slice qk t.kids.length dk)/\W.cell? ⟨w2.heap.size,4,none⟩=some (.int .u8 (r0:Nat))/\W.cell? ⟨w2.heap.size,5,none⟩=some (.int .u8 (r1:Nat))/\W.cell? ⟨w2.heap.size,6,none⟩=some (.int .u8 (r2:Nat))) (first
       | assumption|go_keep) (first
       | (go_at_call 94;refine (d8.o 1 O wr.drew nr _ (M.o.next (Je _ _).drew) (by have:=Y.o;omega) (d.o.then (Je _ _).drew)).mono ?_;rw[HV.o];rintro e w9 ⟨rfl,I⟩;have E:Hid (O8 wr w9 kb sb fb gb nr S F T vS vF (.slice pt T.length ct) v5 1):=O8.after I (Je _ _).drew;have e5:=U.o w9 (by obtain⟨n7,g7,-,-,h7⟩:=E.o;exact d.o.trans h7);clear I))
      all_goals (go_wp2;go_ret;exact⟨Oy G.o.symm,d7.o _ E.o⟩)
     have HV:=Hd V;have HR:=Hd (e1.o V);clear V
     go_wp2
     go_region_held3 (fun W=>W.cell? ⟨w.heap.size,0,none⟩=some (.int .i64 t.op)/\W.cell? ⟨w.heap.size,1,none⟩=some (.string (Oo t.sort))/\W.cell? ⟨w.heap.size,2,none⟩=some (.string (Oo t.text))/\W.cell? ⟨w.heap.size,3,none⟩=some (.int .i64 t.a)/\W.cell? ⟨w.heap.size,4,none⟩=some (.int .i64 t.b)/\W.cell? ⟨w.heap.size,5,none⟩=some (.slice qk t.kids.length dk)/\W.cell? ⟨w2.heap.size,4,none⟩=some (.int .u8 (r0:Nat))/\W.cell? ⟨w2.heap.size,5,none⟩=some (.int .u8 (r1:Nat))/\W.cell? ⟨w2.heap.size,6,none⟩=some (.int .u8 (r2:Nat))) (first
      | assumption|go_keep) (first
      | (go_at_call 94;refine (d8.o 1 O wr.drew nr _ (M.o.next (Je _ _).drew) (by have:=Y.o;omega) (d.o.then (Je _ _).drew)).mono ?_;rw[HV.o];rintro e w9 ⟨rfl,I⟩;have E:Hid (O8 wr w9 kb sb fb gb nr S F T vS vF (.slice pt T.length ct) v5 1):=O8.after I (Je _ _).drew;have e5:=U.o w9 (by obtain⟨n7,g7,-,-,h7⟩:=E.o;exact d.o.trans h7);clear I))
     all_goals (go_wp2;go_roundw)
     all_goals (try (case rel=>exact⟨1+1,by omega,by go_num,HR.o,b8.o _ E.o⟩))
     all_goals (try (case measure=>simp[intOf];omega))
    have r5:min (k:Int) 2=2:=by omega
    have l6:Rule.role ⟨la,le,mo,so,r0,r1,r2⟩ k=r2:=by unfold Rule.role;rw[if_neg (by omega),if_neg (by omega)]
    have n5:=Hd l6;have g2:Hid (∀ W n' gg,BK W kb sb fb gb n' S F T vS vF (.slice pt T.length ct) v5 gg->n'<=1000000000->Bar gb W3 W->Calls prog 94 #[.pointer (some ⟨kb,0,none⟩),.int .u8 (r2:Nat),.agg #[.int .i64 t.op,.string (Oo t.sort),.string (Oo t.text),.int .i64 t.a,.int .i64 t.b,.slice qk t.kids.length dk],.int .i64 (k:Nat)] W fun e w'=>e=.returned (.bool (Km (Ov (Oc (Oq S))) F (Od F) T t (Rule.role ⟨la,le,mo,so,r0,r1,r2⟩ k) k))/\O8 W w' kb sb fb gb n' S F T vS vF (.slice pt T.length ct) v5 1):=fun W n' gg h1 h2 h3=>by
     have h:=d8.o k O W n' gg h1 h2 h3;rw[n5.o] at h ⊢;exact h
    clear l6
    cases V:Km (Ov (Oc (Oq S))) F (Od F) T t (Rule.role ⟨la,le,mo,so,r0,r1,r2⟩ k) k
    ·have HV:=Hd V;have G:=Hd (h9.o V);clear V
     go_wp2
     go_region_held3 (fun W=>W.cell? ⟨w.heap.size,0,none⟩=some (.int .i64 t.op)/\W.cell? ⟨w.heap.size,1,none⟩=some (.string (Oo t.sort))/\W.cell? ⟨w.heap.size,2,none⟩=some (.string (Oo t.text))/\W.cell? ⟨w.heap.size,3,none⟩=some (.int .i64 t.a)/\W.cell? ⟨w.heap.size,4,none⟩=some (.int .i64 t.b)/\W.cell? ⟨w.heap.size,5,none⟩=some (.slice qk t.kids.length dk)/\W.cell? ⟨w2.heap.size,4,none⟩=some (.int .u8 (r0:Nat))/\W.cell? ⟨w2.heap.size,5,none⟩=some (.int .u8 (r1:Nat))/\W.cell? ⟨w2.heap.size,6,none⟩=some (.int .u8 (r2:Nat))) (first
      | assumption|go_keep) (first
      | (go_at_call 94;refine (g2.o wr.drew nr _ (M.o.next (Je _ _).drew) (by have:=Y.o;omega) (d.o.then (Je _ _).drew)).mono ?_;rw[HV.o];rintro e w9 ⟨rfl,I⟩;have E:Hid (O8 wr w9 kb sb fb gb nr S F T vS vF (.slice pt T.length ct) v5 1):=O8.after I (Je _ _).drew;have e5:=U.o w9 (by obtain⟨n7,g7,-,-,h7⟩:=E.o;exact d.o.trans h7);clear I))
     all_goals (go_wp2;go_ret;exact⟨Oy G.o.symm,d7.o _ E.o⟩)
    have HV:=Hd V;have HR:=Hd (e1.o V);clear V
    go_wp2
    go_region_held3 (fun W=>W.cell? ⟨w.heap.size,0,none⟩=some (.int .i64 t.op)/\W.cell? ⟨w.heap.size,1,none⟩=some (.string (Oo t.sort))/\W.cell? ⟨w.heap.size,2,none⟩=some (.string (Oo t.text))/\W.cell? ⟨w.heap.size,3,none⟩=some (.int .i64 t.a)/\W.cell? ⟨w.heap.size,4,none⟩=some (.int .i64 t.b)/\W.cell? ⟨w.heap.size,5,none⟩=some (.slice qk t.kids.length dk)/\W.cell? ⟨w2.heap.size,4,none⟩=some (.int .u8 (r0:Nat))/\W.cell? ⟨w2.heap.size,5,none⟩=some (.int .u8 (r1:Nat))/\W.cell? ⟨w2.heap.size,6,none⟩=some (.int .u8 (r2:Nat))) (first
     | assumption|go_keep) (first
     | (go_at_call 94;refine (g2.o wr.drew nr _ (M.o.next (Je _ _).drew) (by have:=Y.o;omega) (d.o.then (Je _ _).drew)).mono ?_;rw[HV.o];rintro e w9 ⟨rfl,I⟩;have E:Hid (O8 wr w9 kb sb fb gb nr S F T vS vF (.slice pt T.length ct) v5 1):=O8.after I (Je _ _).drew;have e5:=U.o w9 (by obtain⟨n7,g7,-,-,h7⟩:=E.o;exact d.o.trans h7);clear I))
    all_goals (go_wp2;go_roundw)
    all_goals (try (case rel=>exact⟨k+1,by omega,by go_num,HR.o,b8.o _ E.o⟩))
    all_goals (try (case measure=>simp[intOf];omega))
   have G:Hid (J=true):=by
    unfold Hid;rw[k0.o,Jt];intro p hp;have:=Y5.1 hp;exact j7.o p (by omega)
   have HA:Hid (O8 w wr kb sb fb gb n S F T vS vF (.slice pt T.length ct) v5 60):=⟨nr,gr,by have:=Y.o;omega,M.o,(Bar.of A.o).trans d.o⟩;have z5:¬ (k:Int)<(t.kids.length:Int):=by omega
   go_wp2
   go_ret
   exact⟨Oy G.o.symm,HA.o⟩
def Ei (ks:List Int):List UInt8:=ks.flatMap (fun x=>[UInt8.ofNat (x.toNat / 256),UInt8.ofNat x.toNat])
def BQ (l:List UInt8):List Value:=l.map (fun c=>.int .u8 (c.toNat:Nat))
theorem UH {ks:List Int}{k:Nat}(h:k<ks.length):Ei (ks.take (k+1))=Ei (ks.take k)++[UInt8.ofNat (ks[k].toNat / 256),UInt8.ofNat ks[k].toNat]:=by
 unfold Ei;rw[Ye h,Zs];simp
theorem Aa (ks:List Int):(Ei ks).length=2*ks.length:=by
 induction ks with
 | nil=>rfl
 | cons x r ih=>unfold Ei at ih ⊢;simp only[V5,Yn,Yq,Zn,ih];omega
theorem OP:(prog.info? 5).map (fun i=>(i.zero,i.size,i.bytes))=some (some (.int .u8 0),1,1):=by kernel_rfl
theorem Tb (N m y:Nat)(xs:List Value)(w:World)(h:w.ownsRow N 5 1 (.slice (some ⟨N,0,none⟩) m 100) m xs)(hm:m+2<=100) :
 Calls prog 95 #[.slice (some ⟨N,0,none⟩) m 100,.int .i64 (y:Nat)] w fun e w'=>e=.returned (.slice (some ⟨N,0,none⟩) (m+2) 100)/\w'.ownsRow N 5 1 (.slice (some ⟨N,0,none⟩) (m+2) 100) (m+2) (xs++[.int .u8 ((y:Int) / 256 % 256),.int .u8 ((y:Int) % 256)])/\∃ o,(w.alloc o).grownBy w' (some N):=by
 obtain⟨i0,A,M,J,O⟩:=info_parts OP;have E:Hid ((w.alloc (.cells #[.int .u8 ((y:Int) / 256 % 256),.int .u8 ((y:Int) % 256)] 5)).ownsRow N 5 1 (.slice (some ⟨N,0,none⟩) m 100) m xs):=h.alloc _;clear h
 go_in
 go_wp2_with (at_builtin;refine wpList_append_fits _ rfl _ _ 112 rfl N 5 i0 1 underlying112 A J N m 100 _ rfl E.o ⟨w.heap.size,0,none⟩ 2 2 [.int .u8 ((y:Int) / 256 % 256),.int .u8 ((y:Int) % 256)] rfl rfl ?c0 ?c1 ?c2 ?_)
 case c0=>exact World.news_of_block (cs:=#[.int .u8 ((y:Int) / 256 % 256),.int .u8 ((y:Int) % 256)]) (t:=5) (fr:=(0,0)) (heap_alloc_new w _)
 case c1=>intro u K;simp at K;rcases K with rfl|rfl<;>rfl
 case c2=>omega
 intro U d j;have I:=Hd d;have G:=Hd j;clear d j
 go_wp2
 go_ret
 exact⟨rfl,I.o,_,G.o⟩
theorem Ab (t:Tm)(vk:Value)(w:World)(hk:Kg w vk t.kids)(hr:∀ x∈t.kids,0<=x/\x<65536)(hl:t.kids.length<=50) :
 Calls prog 76 #[Xz t vk] w fun e w'=>e=.returned (.agg #[.int .i64 t.op,.string (Oo t.sort),.string (Oo t.text),.int .i64 t.a,.int .i64 t.b,.string (Oo (Ei t.kids))])/\Up w w':=by
 obtain⟨qk,dk,rfl,h8,g3,d2⟩:=hk;have HK:=Hd d2;have HR:=Hd hr;unfold maxLen at g3;obtain⟨i0,c8,g0,g1,g2⟩:=info_parts OP;clear d2 hr;unfold Xz
 go_in
 go_wp2_with (at_make;refine wpList_make_own _ rfl _ _ 112 rfl (w.heap.size+2) 5 i0 (.int .u8 0) 1 underlying112 c8 g0 g1 .i64 .i64 _ 100 rfl rfl ?m1 ?m2 ?m3 ?m4 ?_)
 case m1=>decide
 case m2=>rw[g2];decide
 case m3=>unfold maxLen;decide
 case m4=>simp
 intro w2 I d;have a8:Hid (Up w ((w.alloc (.cells #[.int .i64 t.op,.string (Oo t.sort),.string (Oo t.text),.int .i64 t.a,.int .i64 t.b,.slice qk t.kids.length dk] 55)).alloc (.cells #[.int .i64 0,.string ⟨#[]⟩,.string ⟨#[]⟩,.int .i64 0,.int .i64 0,.string ⟨#[]⟩] 108))):=((Je _ _).alloc leR _).alloc (by rw[Jf];omega) _;have K:Hid (Below (w.heap.size+2) ((w.alloc (.cells #[.int .i64 t.op,.string (Oo t.sort),.string (Oo t.text),.int .i64 t.a,.int .i64 t.b,.slice qk t.kids.length dk] 55)).alloc (.cells #[.int .i64 0,.string ⟨#[]⟩,.string ⟨#[]⟩,.int .i64 0,.int .i64 0,.string ⟨#[]⟩] 108)) w2):=⟨d.os,d.tape,d.output,d.size,fun k hk=>d.block k (by simp;omega) (fun e=>by cases e)⟩;have b8:Hid (Bx w2 w.heap.size [.int .i64 t.op,.string (Oo t.sort),.string (Oo t.text),.int .i64 t.a,.int .i64 t.b,.slice qk t.kids.length dk]):=((Oi w _ _).alloc _).bl (N:=w.heap.size+2) (by omega) K.o;have e6:Hid (Bx w2 (w.heap.size+1) [.int .i64 0,.string ⟨#[]⟩,.string ⟨#[]⟩,.int .i64 0,.int .i64 0,.string ⟨#[]⟩]):=by
  have h:=Oi (w.alloc (.cells #[.int .i64 t.op,.string (Oo t.sort),.string (Oo t.text),.int .i64 t.a,.int .i64 t.b,.slice qk t.kids.length dk] 55)) [.int .i64 0,.string ⟨#[]⟩,.string ⟨#[]⟩,.int .i64 0,.int .i64 0,.string ⟨#[]⟩] 108;rw[Jf] at h;exact h.bl (N:=w.heap.size+2) (by omega) K.o
 have d7:Hid (Up w w2):=a8.o.trans (K.o.mono (by omega));have b6:Hid (w.heap.size+2<=w2.heap.size):=by have:=d.size;simp at this;unfold Hid;omega
 have b4:=Hd I;clear I d a8;obtain⟨N,hN⟩:=Oa (w.heap.size+2);have b9:w.heap.size+1+1=N:=by omega
 rw[hN] at b4 b6 K;rw[b9];have HN:=Hd hN;have t5:=b8.o.cell 5;simp only[Jm,Js] at t5;clear hN b9
 go_wp2_with fail
 clear t5
 go_loopw [3,10] (fun v i wr=>∃ k:Nat,k<=t.kids.length/\i=.int .i64 (k:Nat)/\v=.slice (some ⟨N,0,none⟩) (2*k) 100/\wr.ownsRow N 5 1 (.slice (some ⟨N,0,none⟩) (2*k) 100) (2*k) (BQ (Ei (t.kids.take k)))/\Below N w2 wr) (fun _ i _=>t.kids.length - (intOf i).toNat)
 case atStart=>exact⟨0,Jr _,rfl,rfl,b4.o,Je _ _⟩
 obtain⟨k,hk,rfl,rfl,V,Y⟩:=hrel;have A:=Hd V;have M:=Hd Y;have b3:Hid (Up w wr):=d7.o.trans (Y.mono (by have:=HN.o;omega));clear V Y
 by_cases G:k<t.kids.length
 ·rcases HK.o with e0|⟨bq,rfl,e9,c6⟩
  ·rw[e0] at G;cases G
  have cx:=(b3.o.cell (p:=⟨bq,k,none⟩) e9).trans (c6 k G);clear c6;have hx:=HR.o _ (Jo G);have b5:=Hd (UH G);obtain⟨y,hy⟩:∃ y:Nat,t.kids[k]=(y:Int):=⟨t.kids[k].toNat,by omega⟩;rw[hy] at cx hx b5;clear hy;have e7:=Hd hx;clear hx;have h7:(0:Int)<=(k:Int):=by omega
  have i1:(k:Int)<(t.kids.length:Int):=by omega
  have b7:=Hd (Tb N (2*k) y _ wr A.o (by omega))
  go_wp2_with fail
  refine b7.o.mono ?_;rintro e w5 ⟨rfl,J,o5,U⟩;have d6:Hid (Below N w2 w5):=Nj M.o A.o U (by have:=M.o.size;have:=b6.o;omega);have d9:Hid (w5.ownsRow N 5 1 (.slice (some ⟨N,0,none⟩) (2*(k+1)) 100) (2*(k+1)) (BQ (Ei (t.kids.take (k+1))))):=by
   have hb:=e7.o;unfold Hid;rw[b5.o];have e:BQ (Ei (t.kids.take k)++[UInt8.ofNat ((y:Int).toNat / 256),UInt8.ofNat (y:Int).toNat])=BQ (Ei (t.kids.take k))++[.int .u8 ((y:Int) / 256 % 256),.int .u8 ((y:Int) % 256)]:=by
    unfold BQ;rw[Yr];simp only[Vh,Vt,Int.toNat_natCast,UInt8.toNat_ofNat']
    congr 2
   rw[e];exact J
  clear J U b7
  go_wp2
  go_roundw
  case rel=>exact⟨k+1,by omega,by go_num,rfl,d9.o,d6.o⟩
  simp[intOf];omega
 obtain rfl:k=t.kids.length:=by omega
 have Z:(convert 112 9 (.slice (some ⟨N,0,none⟩) (2*t.kids.length) 100)).run prog wr=.ok (.string (Oo (Ei t.kids))) wr:=by
  have h:=A.o;rw[Yk] at h;have f8:=Aa t.kids;have:=run_convert_bytes_back (P:=prog) wr 112 9 5 ⟨N,0,none⟩ 100 (Ei t.kids) underlying112 underlying5 underlying9 (fun j hj=>by
   have:=h.cells (g:=N) rfl j (.int .u8 ((Ei t.kids)[j].toNat:Nat)) (by simp[BQ,List.getElem?_eq_getElem hj]);exact this)
  rw[f8] at this;exact this
 have d0:=b8.o.bl (N:=N) (by have:=HN.o;omega) M.o;have O:=e6.o.bl (N:=N) (by have:=HN.o;omega) M.o;obtain⟨t0,t1,t2,t3,t4⟩:=d0.k5;obtain⟨r0,r1,r2,r3,r4,r5⟩:=O.k6;obtain⟨f0,f1,f2,f3,f4,f5⟩:=O.f6;have d1:=(((((O.set 0 (.int .i64 t.op)).set 1 (.string (Oo t.sort))).set 2 (.string (Oo t.text))).set 3 (.int .i64 t.a)).set 4 (.int .i64 t.b)).set 5 (.string (Oo (Ei t.kids)));have E:=Hd d1;have hq:w.heap.size<=w.heap.size+1:=by omega
 clear d0 O d1 A
 go_wp2_with fail
 have e0:=E.o.cell 0;have e1:=E.o.cell 1;have e2:=E.o.cell 2;have e3:=E.o.cell 3;have e4:=E.o.cell 4;have e5:=E.o.cell 5;simp only[J0,Jz,Jm,Js] at e0 e1 e2 e3 e4 e5;refine Jg (v:=.agg #[.int .i64 t.op,.string (Oo t.sort),.string (Oo t.text),.int .i64 t.a,.int .i64 t.b,.string (Oo (Ei t.kids))]) ?_ rfl ⟨rfl,(((((b3.o.setCell (p:=⟨w.heap.size+1,0,none⟩) hq _).setCell (p:=⟨w.heap.size+1,1,none⟩) hq _).setCell (p:=⟨w.heap.size+1,2,none⟩) hq _).setCell (p:=⟨w.heap.size+1,3,none⟩) hq _).setCell (p:=⟨w.heap.size+1,4,none⟩) hq _).setCell (p:=⟨w.heap.size+1,5,none⟩) hq _⟩;clear t0 t1 t2 t3 t4 r0 r1 r2 r3 r4 r5 f0 f1 f2 f3 f4 f5 Z;simp[results,results76,go_sem,e0,e1,e2,e3,e4,e5]
def Nx (ks:List Int):List Value:=ks.map (Value.int .i64)
theorem VZ (vk:Value)(ks:List Int)(w:World)(hk:Kg w vk ks)(hl:ks.length<=1000000) :
 Calls prog 96 #[vk] w fun e w'=>∃ v',e=.returned v'/\w'.ownsRow w.heap.size 3 1 v' ks.length (Nx ks)/\Up w w':=by
 obtain⟨p,c,rfl,d,h2,h3⟩:=hk
 rcases h3 with rfl|⟨b,rfl,hb,hc⟩
 ·cases p with
  | none=>
    refine (Tryz.slices_Clone_int_nil 0 c w).mono ?_;rintro e w' ⟨rfl,rfl⟩;exact⟨_,rfl,⟨rfl,.inl ⟨rfl,rfl⟩⟩,Je _ _⟩
  | some a=>
    refine (Tryz.slices_Clone_int_zero a c w).mono ?_;rintro e w' ⟨v',rfl,h,-,hb⟩;exact⟨v',rfl,h,hb⟩
 refine (Tryz.slices_Clone_int b 0 ks.length c ks w leR (by omega) (fun j hj=>?_)).mono ?_
 ·rw[Y8,hc j hj];simp[List.getD,List.getElem?_eq_getElem hj]
 rintro e w' ⟨v',rfl,h,-,hb⟩;rw[Yk] at h;exact⟨v',rfl,h,hb⟩
theorem Kh {w:World}{base base':Nat}{e:TypeId}{size:Nat}{v:Value}{n:Nat}{xs:List Value}(h:w.ownsRow base e size v n xs)(hb:base'<=base):w.ownsRow base' e size v n xs:=by
 refine⟨h.1,?_⟩
 rcases h.2 with j|⟨g,cap,d,e,A,h3⟩
 ·exact .inl j
 exact .inr ⟨g,cap,d,e,Yc hb A,h3⟩
theorem Sl (t:Tm)(vk:Value)(w:World)(hk:Kg w vk t.kids)(hl:t.kids.length<=1000000)(hts:t.sort.length<=1048576)(htx:t.text.length<=1048576) :
 Calls prog 77 #[Xz t vk] w fun e w'=>∃ p n c,e=.returned (Xz t (.slice p n c))/\w'.ownsRow w.heap.size 3 1 (.slice p n c) t.kids.length (Nx t.kids)/\Up w w':=by
 have HI:=Hd hk;obtain⟨qk,dk,rfl,d8,d9,-⟩:=hk;clear d8 d9;have d6:(Oo t.sort).size<=1048576:=by show t.sort.toArray.size<=_;simpa using hts
 have d7:(Oo t.text).size<=1048576:=by show t.text.toArray.size<=_;simpa using htx
 unfold Xz
 go_in
 go_wp2_with fail
 obtain⟨W1,I⟩:=Oa ((w.alloc (.cells #[.int .i64 t.op,.string (Oo t.sort),.string (Oo t.text),.int .i64 t.a,.int .i64 t.b,.slice qk t.kids.length dk] 55)).alloc (.cells #[.int .i64 0,.string ⟨#[]⟩,.string ⟨#[]⟩,.int .i64 0,.int .i64 0,.slice none 0 0] 55));have a8:Hid (Up w W1):=by unfold Hid;rw[<-I];exact ((Je _ _).alloc leR _).alloc (by rw[Jf];omega) _
 have b6:Hid (W1.heap.size=w.heap.size+2):=by unfold Hid;rw[<-I];simp
 have j:Hid (Bx W1 w.heap.size [.int .i64 t.op,.string (Oo t.sort),.string (Oo t.text),.int .i64 t.a,.int .i64 t.b,.slice qk t.kids.length dk]):=by unfold Hid;rw[<-I];exact (Oi w _ _).alloc _
 have A:Hid (Bx W1 (w.heap.size+1) [.int .i64 0,.string ⟨#[]⟩,.string ⟨#[]⟩,.int .i64 0,.int .i64 0,.slice none 0 0]):=by unfold Hid;rw[<-I];have h:=Oi (w.alloc (.cells #[.int .i64 t.op,.string (Oo t.sort),.string (Oo t.text),.int .i64 t.a,.int .i64 t.b,.slice qk t.kids.length dk] 55)) [.int .i64 0,.string ⟨#[]⟩,.string ⟨#[]⟩,.int .i64 0,.int .i64 0,.slice none 0 0] 55;rw[Jf] at h;exact h
 rw[I];clear I;refine (N5 (Oo t.sort) _ d6).mono ?_;rintro e w2 ⟨rfl,hb2⟩;have d:=Hd (j.o.bl j.o.lt hb2);have E:=Hd (A.o.bl A.o.lt hb2);have b3:=a8.up hb2;have d3:Hid (w.heap.size+2<=w2.heap.size):=by have:=hb2.size;have:=b6.o;unfold Hid;omega
 clear hb2 j A a8 b6;have a1:=d.o.cell 1;have a2:=d.o.cell 2;simp only[Jm,Js] at a1 a2;have f1:=d.o.fz 1;have l0:w.heap.size≠w.heap.size+1:=by omega
 go_wp2_with fail
 have j:Hid (Bx (w2.setCell ⟨w.heap.size,1,none⟩ (.string (Oo t.sort))) w.heap.size [.int .i64 t.op,.string (Oo t.sort),.string (Oo t.text),.int .i64 t.a,.int .i64 t.b,.slice qk t.kids.length dk]):=d.o.set 1 _;have A:=Hd (E.o.other ⟨w.heap.size,1,none⟩ (by simp) (.string (Oo t.sort)));have O:Hid (Up w (w2.setCell ⟨w.heap.size,1,none⟩ (.string (Oo t.sort)))):=b3.o.sc;have b7:Hid (w.heap.size+2<=(w2.setCell ⟨w.heap.size,1,none⟩ (.string (Oo t.sort))).heap.size):=by have:=d3.o;unfold Hid;simp[World.setCell];omega
 clear a1 a2 f1 d E;generalize w2.setCell ⟨w.heap.size,1,none⟩ (.string (Oo t.sort))=W3 at j A O b7 ⊢;refine (N5 (Oo t.text) _ d7).mono ?_;rintro e w4 ⟨rfl,J⟩;have d:=Hd (j.o.bl j.o.lt J);have E:=Hd (A.o.bl A.o.lt J);have b4:=O.up J;have d4:Hid (w.heap.size+2<=w4.heap.size):=by have:=J.size;have:=b7.o;unfold Hid;omega
 clear J j A O b3;have a2:=d.o.cell 2;have a5:=d.o.cell 5;simp only[Jm,Js] at a2 a5;have f2:=d.o.fz 2
 go_wp2_with fail
 have j:Hid (Bx (w4.setCell ⟨w.heap.size,2,none⟩ (.string (Oo t.text))) w.heap.size [.int .i64 t.op,.string (Oo t.sort),.string (Oo t.text),.int .i64 t.a,.int .i64 t.b,.slice qk t.kids.length dk]):=d.o.set 2 _;have A:=Hd (E.o.other ⟨w.heap.size,2,none⟩ (by simp) (.string (Oo t.text)));have K:Hid (Up w (w4.setCell ⟨w.heap.size,2,none⟩ (.string (Oo t.text)))):=b4.o.sc;have b8:Hid (w.heap.size+2<=(w4.setCell ⟨w.heap.size,2,none⟩ (.string (Oo t.text))).heap.size):=by have:=d4.o;unfold Hid;simp[World.setCell];omega
 clear a2 a5 f2 d E;generalize w4.setCell ⟨w.heap.size,2,none⟩ (.string (Oo t.text))=W5 at j A K b8 ⊢;refine (VZ _ t.kids _ (HI.o.bl K.o) hl).mono ?_;rintro e w6 ⟨v6,rfl,G,M⟩;obtain⟨V,U,rfl⟩:=Ed G;have d:=Hd (j.o.bl j.o.lt M);have E:=Hd (A.o.bl A.o.lt M);have d1:=K.up M;have b5:Hid (w6.ownsRow (w.heap.size+2) 3 1 (.slice V t.kids.length U) t.kids.length (Nx t.kids)):=by
  refine⟨G.1,?_⟩
  rcases G.2 with h0|⟨g,cap,d5,e,hg,h3⟩
  ·exact .inl h0
  exact .inr ⟨g,cap,d5,e,by have:=b8.o;omega,h3⟩
 clear M j A K b4 G;obtain⟨a0,a1,a2,a3,a4,a5⟩:=d.o.k6;obtain⟨r0,r1,r2,r3,r4,r5⟩:=E.o.k6;have f5:=d.o.fz 5;obtain⟨g0,g1,g2,g3,g4,g5⟩:=E.o.f6;have Z:w.heap.size<=w.heap.size+1:=by omega
 have Y:=Hd ((((((((E.o.other ⟨w.heap.size,5,none⟩ (by simp) (.slice V t.kids.length U)).set 0 (.int .i64 t.op)).set 1 (.string (Oo t.sort))).set 2 (.string (Oo t.text))).set 3 (.int .i64 t.a)).set 4 (.int .i64 t.b)).set 5 (.slice V t.kids.length U)));have d2:=Hd ((((((((d1.o.setCell (p:=⟨w.heap.size,5,none⟩) leR (.slice V t.kids.length U)).setCell (p:=⟨w.heap.size+1,0,none⟩) Z (.int .i64 t.op)).setCell (p:=⟨w.heap.size+1,1,none⟩) Z (.string (Oo t.sort))).setCell (p:=⟨w.heap.size+1,2,none⟩) Z (.string (Oo t.text))).setCell (p:=⟨w.heap.size+1,3,none⟩) Z (.int .i64 t.a)).setCell (p:=⟨w.heap.size+1,4,none⟩) Z (.int .i64 t.b)).setCell (p:=⟨w.heap.size+1,5,none⟩) Z (.slice V t.kids.length U)))
 go_wp2_with fail
 have e0:=Y.o.cell 0;have e1:=Y.o.cell 1;have e2:=Y.o.cell 2;have e3:=Y.o.cell 3;have e4:=Y.o.cell 4;have e5:=Y.o.cell 5;simp only[J0,Jz,Jm,Js] at e0 e1 e2 e3 e4 e5;refine Jg (v:=.agg #[.int .i64 t.op,.string (Oo t.sort),.string (Oo t.text),.int .i64 t.a,.int .i64 t.b,.slice V t.kids.length U]) ?_ rfl ⟨V,t.kids.length,U,rfl,Kh (own_other' b5.o (fun g hg=>?_)) (by omega),d2.o⟩
 ·clear a0 a1 a2 a3 a4 a5 r0 r1 r2 r3 r4 r5 f5 g0 g1 g2 g3 g4 g5;simp[results,results77,go_sem,e0,e1,e2,e3,e4,e5]
 have h8:=Ol b5.o g hg;have n1:g≠w.heap.size+1:=by omega
 have n0:g≠w.heap.size:=by omega
 rw[Jh _ _ _ _ n1,Jh _ _ _ _ n1,Jh _ _ _ _ n1,Jh _ _ _ _ n1,Jh _ _ _ _ n1,Jh _ _ _ _ n1,Jh _ _ _ _ n0]
end Go.Proofs.YtdmdmgfjpomdbaaGreatDoor
