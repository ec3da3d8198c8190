import Derived.Test.YtipgjenolpofpaaGreatDoorP36
import Derived.OwnWalk
set_option maxRecDepth 100000
set_option maxHeartbeats 16000000
namespace Go.Proofs.YtipgjenolpofpaaGreatDoor
open Go.ChangeShapes Go.WideShapes Go.ChangeAt Go.RowKit Go.Proofs.Tryz
theorem UG {o:Int}{r:Rule}(h:Ep o=some r):1<=o/\o<=47:=by
 by_cases d:1<=o/\o<=47
 ·exact d
 rw[Fa d] at h;cases h
theorem Xb {o:Int}{r:Rule}(h:Ep o=some r):r∈rules:=by
 unfold Ep at h
 split at h
 ·cases h
 exact List.mem_of_find?_eq_some h
theorem OP {o:Int}{r:Rule}(h:Ep o=some r):r.least=Kg o/\r.most<=50:=by
 refine⟨?_,(Ir r (Xb h)).2.2.1⟩
 rcases UC (UG h) with rfl|rfl|rfl|rfl|rfl|rfl|rfl|rfl|rfl|rfl|rfl|rfl|rfl|rfl|rfl|rfl|rfl|rfl|rfl|rfl|rfl|rfl|rfl|rfl|rfl|rfl|rfl|rfl|rfl|rfl|rfl|rfl|rfl|rfl|rfl|rfl|rfl|rfl|rfl|rfl|rfl|rfl|rfl|rfl|rfl|rfl|rfl
 all_goals (cases h;rfl)
theorem RW {o:Int}{r:Rule}(h:Ep o=some r)(p:Nat)(hp:r.role p=14):o=11:=by
 rcases UC (UG h) with rfl|rfl|rfl|rfl|rfl|rfl|rfl|rfl|rfl|rfl|rfl|rfl|rfl|rfl|rfl|rfl|rfl|rfl|rfl|rfl|rfl|rfl|rfl|rfl|rfl|rfl|rfl|rfl|rfl|rfl|rfl|rfl|rfl|rfl|rfl|rfl|rfl|rfl|rfl|rfl|rfl|rfl|rfl|rfl|rfl|rfl|rfl
 all_goals (cases h;first|rfl|(exfalso;unfold Rule.role at hp;simp only at hp;split at hp;omega;split at hp<;>omega))
theorem ZP {o:Int}{r:Rule}(h:Ep o=some r)(p:Nat):r.role p<=20:=by
 have:=Ir r (Xb h);unfold Rule.role
 split
 ·omega
 split<;>omega
theorem Wm {rd:List UInt8->SI}{num:Tm->Bool}{F:List Fn}{f2:List UInt8->Option Nat}{T:List Tm}{t:Tm}{r:Rule}(h:Ep t.op=some r):Gx rd num F f2 T t=(decide (r.least<=t.kids.length/\t.kids.length<=r.most)&&I6 T.length t&&O5 r.sort (rd t.sort).kind&&G0 t&&U7 rd num F f2 T t&&(List.range t.kids.length).all (fun p=>Kh rd F f2 T t (r.role p) p)):=by
 unfold Gx;rw[h]
theorem Xu {w:World}{kb sb fb gb n:Nat}{S:List (List UInt8)}{F:List Fn}{T:List Tm}{vS vF vT v5:Value}{g:List UInt8->Option SI}(h:BK w kb sb fb gb n S F T vS vF vT v5 g)(t:Tm)(vk:Value)(hk:U6 w vk t.kids)(num:Tm->Bool)(hT:T.length<=1000000)(hl:t.kids.length<=1048576)(hF:F.length<=1000)(hz:∀ u∈T,u.sort.length<=1048576)(hts:t.sort.length<=1048576)(htx:t.text.length<=1048576)(hn:n<=800000000)
 (hnum:t.op=12->((Ov (Oh (Og S)) t.sort).kind=2∨(Ov (Oh (Og S)) t.sort).kind=3)->∀ W,Bar gb w W->Calls prog 118 #[.string (Oo t.sort),.string (Oo t.text)] W fun e w'=>e=.returned (.bool (num t))/\Up W w') :
 Calls prog 84 #[.pointer (some ⟨kb,0,none⟩),Ie t vk] w fun e w'=>e=.returned (.bool (Gx (Ov (Oh (Og S))) num F (Oq F) T t))/\O7 w w' kb sb fb gb n S F T vS vF vT v5 60:=by
 obtain⟨qk,dk,rfl,p2,l3,j0⟩:=hk;have HH:=Hd h;have HI:Hid (U6 w (.slice qk t.kids.length dk) t.kids):=⟨qk,dk,rfl,p2,l3,j0⟩;have HK:=Hd j0;have HZ:=Hd hz;have l6:=Hd hnum;unfold maxLen at l3;clear h j0 hz hnum;have n8:(Oo t.sort).size<=1048576:=by show t.sort.toArray.size<=_;simpa using hts
 have HB:Hid (Up w (w.alloc (.cells #[.int .i64 t.op,.string (Oo t.sort),.string (Oo t.text),.int .i64 t.a,.int .i64 t.b,.slice qk t.kids.length dk] 57))):=Oy _ _;have f9:Hid (Bx (w.alloc (.cells #[.int .i64 t.op,.string (Oo t.sort),.string (Oo t.text),.int .i64 t.a,.int .i64 t.b,.slice qk t.kids.length dk] 57)) w.heap.size [.int .i64 t.op,.string (Oo t.sort),.string (Oo t.text),.int .i64 t.a,.int .i64 t.b,.slice qk t.kids.length dk]):=Ox _ _ _;obtain⟨J,d7⟩:=O1 (Gx (Ov (Oh (Og S))) num F (Oq F) T t);rw[d7];have g3:=Hd d7;clear d7;unfold Ie
 go_enter func84,ntmps84
 go_wp2_with fail
 refine (Wf t.op _ (HH.o.next HB.o).rt).mono ?_
 cases a7:Ep t.op with
 | none=>
   have G:Hid (J=false):=by unfold Hid;rw[<-g3.o];unfold Gx;rw[a7]
   clear a7;rintro e K ⟨rfl,d1⟩;have e6:=HB.up d1;have g5:=f9.o.below f9.o.lt d1;have t5:=g5.cell 5;simp only[Jo,Jr] at t5;clear d1 g5;have A:Hid (Up w (K.alloc (.cells #[.int .u8 0,.int .u8 0,.int .u8 0,.int .u8 0,.int .u8 0,.int .u8 0,.int .u8 0] 133))):=e6.o.alloc e6.o.size _;simp only[Option.getD_none,Option.isSome_none];unfold R3 Bz
   go_wp2_with fail
   go_ret
   exact⟨Oz G.o.symm,O7.of HH.o A.o 60⟩
 | some r=>
   have f5:=Hd a7;have HT:Hid (J=(decide (r.least<=t.kids.length/\t.kids.length<=r.most)&&I6 T.length t&&O5 r.sort (Ov (Oh (Og S)) t.sort).kind&&G0 t&&U7 (Ov (Oh (Og S))) num F (Oq F) T t&&(List.range t.kids.length).all (fun p=>Kh (Ov (Oh (Og S))) F (Oq F) T t (r.role p) p))):=by unfold Hid;rw[<-g3.o,Wm a7]
   obtain⟨p0,n3,p1,o6,o0,o7,n0⟩:=Ir r (Xb a7);clear a7;rintro e K ⟨rfl,d1⟩;have e6:=HB.up d1;have HY:=Hd (f9.o.below f9.o.lt d1);have q6:w.heap.size<K.heap.size:=HY.o.lt;clear d1;simp only[Um,Option.isSome_some];obtain⟨la,le,mo,so,r0,r1,r2⟩:=r;simp only at HT p0 n3 p1 o6 o0 o7 n0;have A:Hid (Up w (K.alloc (.cells #[.int .u8 (la:Nat),.int .u8 (le:Nat),.int .u8 (mo:Nat),.int .u8 (so:Nat),.int .u8 (r0:Nat),.int .u8 (r1:Nat),.int .u8 (r2:Nat)] 133))):=e6.o.alloc e6.o.size _;have l0:=Hd (HY.o.alloc (.cells #[.int .u8 (la:Nat),.int .u8 (le:Nat),.int .u8 (mo:Nat),.int .u8 (so:Nat),.int .u8 (r0:Nat),.int .u8 (r1:Nat),.int .u8 (r2:Nat)] 133));have l7:Hid (Bx (K.alloc (.cells #[.int .u8 (la:Nat),.int .u8 (le:Nat),.int .u8 (mo:Nat),.int .u8 (so:Nat),.int .u8 (r0:Nat),.int .u8 (r1:Nat),.int .u8 (r2:Nat)] 133)) K.heap.size [.int .u8 (la:Nat),.int .u8 (le:Nat),.int .u8 (mo:Nat),.int .u8 (so:Nat),.int .u8 (r0:Nat),.int .u8 (r1:Nat),.int .u8 (r2:Nat)]):=Ox _ _ _;unfold R3
   go_upto_region 2 with fail
   obtain⟨W3,l9⟩:=O1 (K.alloc (.cells #[.int .u8 (la:Nat),.int .u8 (le:Nat),.int .u8 (mo:Nat),.int .u8 (so:Nat),.int .u8 (r0:Nat),.int .u8 (r1:Nat),.int .u8 (r2:Nat)] 133));rw[l9] at A l0 l7 ⊢;clear l9;obtain⟨t0,t1,t2,t3,t4,t5⟩:=l0.o.k6;obtain⟨c0,c1,c2,c3,c4,c5,c6⟩:=l7.o.c7;have d2:Hid (∀ W,Up w W->O7 w W kb sb fb gb n S F T vS vF vT v5 60):=fun W hW=>O7.of HH.o hW 60;have v1:(le:Int)<=255:=by omega
   have v2:(mo:Int)<=255:=by omega
   have v3:(so:Int)<=255:=by omega
   by_cases l1:t.kids.length<le
   ·have G:Hid (J=false):=by unfold Hid;rw[HT.o,Jg (by omega)];rfl
    go_wp2_with fail
    go_ret
    exact⟨Oz G.o.symm,d2.o _ A.o⟩
   by_cases l2:mo<t.kids.length
   ·have G:Hid (J=false):=by unfold Hid;rw[HT.o,Jg (by omega)];rfl
    have j7:le<=t.kids.length:=by omega
    go_wp2_with fail
    go_ret
    exact⟨Oz G.o.symm,d2.o _ A.o⟩
   have h9:Hid (J=(I6 T.length t&&O5 so (Ov (Oh (Og S)) t.sort).kind&&G0 t&&U7 (Ov (Oh (Og S))) num F (Oq F) T t&&(List.range t.kids.length).all (fun p=>Kh (Ov (Oh (Og S))) F (Oq F) T t (Rule.role ⟨la,le,mo,so,r0,r1,r2⟩ p) p))):=by unfold Hid;rw[HT.o,Jb (by omega),Za]
   have j7:le<=t.kids.length:=by omega
   have r9:t.kids.length<=mo:=by omega
   have p4:t.kids.length<=50:=by omega
   clear HT l1 l2
   go_cut [35] (fun s35 wx=>s35=.bool false/\W3=wx)
   case first=>
    go_wp2_with fail
    go_meet
    exact⟨by rw[Jg (by omega),Jg (by omega)];rfl,rfl⟩
   case rest=>
    obtain⟨rfl,rfl⟩:=hcut;obtain⟨pt,ct,rfl,r8,p3,-⟩:=HH.o.tr;unfold maxLen at p3;have a2:=(HH.o.next A.o).box.c7.2.2.1
    go_wp2_with fail
    go_loopw [39] (fun i wr=>∃ k:Nat,k<=t.kids.length/\i=.int .i64 (k:Nat)/\(∀ j (h:j<t.kids.length),j<k->0<=t.kids[j]/\t.kids[j]<(T.length:Int))/\W3=wr) (fun i _=>t.kids.length - (intOf i).toNat)
    case atStart=>exact⟨0,Jy _,rfl,fun j _ h=>absurd h (J1 _),rfl⟩
    case round=>
     obtain⟨k,hk,rfl,hp,m7⟩:=hrel;subst m7;have HP:=Hd hp;clear hp
     by_cases U:k<t.kids.length
     ·rcases HK.o with e0|⟨bq,rfl,n2,k9⟩
      ·rw[e0] at U;cases U
      have cx:=(A.o.cell (p:=⟨bq,k,none⟩) n2).trans (k9 k U);clear k9;have i0:(0:Int)<=(k:Int):=by omega
      have i1:(k:Int)<(t.kids.length:Int):=by omega
      by_cases hx:0<=t.kids[k]/\t.kids[k]<(T.length:Int)
      ·have o9:=Hd hx;obtain⟨y,hy⟩:∃ y:Nat,t.kids[k]=(y:Int):=⟨t.kids[k].toNat,by omega⟩;rw[hy] at cx hx;clear hy;have i2:(y:Int)<(T.length:Int):=by omega
       have i6:y<T.length:=by omega
       go_wp2_with fail
       go_roundw
       case rel=>exact⟨k+1,by omega,by go_num,fun j hj h2=>by
        rcases J0.1 h2 with h|rfl
        ·exact HP.o j hj h
        ·exact o9.o,trivial⟩
       case measure=>simp[intOf];omega
      ·have G:Hid (J=false):=by
        unfold Hid;have:I6 T.length t=false:=by
         unfold I6;rw[J9];intro h;exact hx (by simpa using Ju.1 h t.kids[k] (Jw U))
        rw[h9.o,this];rfl
       generalize t.kids[k]=x at cx hx
       by_cases q5:x<0
       ·clear hx
        go_wp2_with fail
        go_ret
        exact⟨Oz G.o.symm,d2.o _ A.o⟩
       ·have s2:(T.length:Int)<=x:=by omega
        clear hx
        go_wp2_with fail
        go_ret
        exact⟨Oz G.o.symm,d2.o _ A.o⟩
     ·have i8:Hid (I6 T.length t=true):=by
       unfold Hid I6;rw[Ju];intro x hx;obtain⟨j,hj,rfl⟩:=Ya hx
       simpa using HP.o j hj (by omega)
      have h8:Hid (J=(O5 so (Ov (Oh (Og S)) t.sort).kind&&G0 t&&U7 (Ov (Oh (Og S))) num F (Oq F) T t&&(List.range t.kids.length).all (fun p=>Kh (Ov (Oh (Og S))) F (Oq F) T t (Rule.role ⟨la,le,mo,so,r0,r1,r2⟩ p) p))):=by unfold Hid;rw[h9.o,i8.o,Za]
      have V:Hid (∀ W,Bar gb W3 W->(W.cell? ⟨w.heap.size,0,none⟩=some (.int .i64 t.op)/\W.cell? ⟨w.heap.size,1,none⟩=some (.string (Oo t.sort))/\W.cell? ⟨w.heap.size,2,none⟩=some (.string (Oo t.text))/\W.cell? ⟨w.heap.size,3,none⟩=some (.int .i64 t.a)/\W.cell? ⟨w.heap.size,4,none⟩=some (.int .i64 t.b)/\W.cell? ⟨w.heap.size,5,none⟩=some (.slice qk t.kids.length dk)/\W.cell? ⟨K.heap.size,4,none⟩=some (.int .u8 (r0:Nat))/\W.cell? ⟨K.heap.size,5,none⟩=some (.int .u8 (r1:Nat))/\W.cell? ⟨K.heap.size,6,none⟩=some (.int .u8 (r2:Nat)))):=fun W hW=>by
       have Z:=hW.keep (HH.o.next A.o).km;exact⟨Z.cell _ _ t0,Z.cell _ _ t1,Z.cell _ _ t2,Z.cell _ _ t3,Z.cell _ _ t4,Z.cell _ _ t5,Z.cell _ _ c4,Z.cell _ _ c5,Z.cell _ _ c6⟩
      have z3:¬ (k:Int)<(t.kids.length:Int):=by omega
      clear h9 hk
      go_wp2_with fail
      refine (Su (HH.o.next A.o) (so:Nat) ⟨by omega,by omega⟩ (Oo t.sort) n8 (by omega)).mono ?_;rw[Ou]
      cases d4:O5 (so:Nat) (Ov (Oh (Og S)) t.sort).kind
      ·have G:Hid (J=false):=by unfold Hid;rw[h8.o,d4];rfl
       clear d4;rintro e w4 ⟨rfl,g1⟩;have m8:=Hd ((g1.after A.o).more (m':=60) (by omega));clear g1
       go_wp2_with fail
       go_ret
       exact⟨Oz G.o.symm,m8.o⟩
      have j3:Hid (J=(G0 t&&U7 (Ov (Oh (Og S))) num F (Oq F) T t&&(List.range t.kids.length).all (fun p=>Kh (Ov (Oh (Og S))) F (Oq F) T t (Rule.role ⟨la,le,mo,so,r0,r1,r2⟩ p) p))):=by unfold Hid;rw[h8.o,d4,Za]
      have o3:Hid (t.op=12->(Ov (Oh (Og S)) t.sort).kind=2∨(Ov (Oh (Og S)) t.sort).kind=3):=fun h12=>by
       have a7:=f5.o;rw[h12] at a7;have o8:so=11:=by cases a7;rfl
       rw[o8] at d4
       simpa[O5] using d4
      clear d4 h8;rintro e w4 ⟨rfl,g1⟩;obtain⟨n4,g4,j2,h6,c8⟩:=g1;have d8:=Hd h6;have e1:=Hd c8;obtain⟨t0,t1,t2,t3,t4,t5,c4,c5,c6⟩:=V.o w4 c8;clear h6 c8
      go_wp2_with fail
      refine (Lr t (.slice qk t.kids.length dk) w4).mono ?_
      cases e9:G0 t
      ·have G:Hid (J=false):=by unfold Hid;rw[j3.o,e9];rfl
       clear e9;rintro e w5 ⟨rfl,d3⟩;have o1:Hid (O7 w w5 kb sb fb gb n S F T vS vF (.slice pt T.length ct) v5 60):=(O7.comp (m:=0) j2 ((Bar.of A.o).trans e1.o) (O7.of d8.o d3 0)).more (by omega);clear d3
       go_wp2_with fail
       go_ret
       exact⟨Oz G.o.symm,o1.o⟩
      have i7:Hid (J=(U7 (Ov (Oh (Og S))) num F (Oq F) T t&&(List.range t.kids.length).all (fun p=>Kh (Ov (Oh (Og S))) F (Oq F) T t (Rule.role ⟨la,le,mo,so,r0,r1,r2⟩ p) p))):=by unfold Hid;rw[j3.o,e9,Za]
      clear e9 j3;rintro e w5 ⟨rfl,d3⟩;have M:Hid (Bar gb W3 w5):=e1.o.trans (Bar.of d3);have k7:=Hd (d8.o.next d3);obtain⟨t0,t1,t2,t3,t4,t5,c4,c5,c6⟩:=V.o w5 M.o;clear d3 d8
      go_wp2_with fail
      refine (An k7.o t (.slice qk t.kids.length dk) ((HI.o.below A.o).keep (M.o.keep (HH.o.next A.o).km)) i8.o num hT (by omega) hF HZ.o hts htx (by omega) (by rw[<-(OP f5.o).1];exact j7) (fun h12 W hW=>l6.o h12 (o3.o h12) W ((Bar.of A.o).trans (M.o.trans hW)))).mono ?_
      cases b5:U7 (Ov (Oh (Og S))) num F (Oq F) T t
      ·have G:Hid (J=false):=by unfold Hid;rw[i7.o,b5];rfl
       clear b5;rintro e w6 ⟨rfl,f8⟩;have o5:Hid (O7 w w6 kb sb fb gb n S F T vS vF (.slice pt T.length ct) v5 60):=(O7.comp j2 ((Bar.of A.o).trans M.o) f8).more (by omega);clear f8
       go_wp2_with fail
       go_ret
       exact⟨Oz G.o.symm,o5.o⟩
      have j8:Hid (J=(List.range t.kids.length).all (fun p=>Kh (Ov (Oh (Og S))) F (Oq F) T t (Rule.role ⟨la,le,mo,so,r0,r1,r2⟩ p) p)):=by unfold Hid;rw[i7.o,b5,Za]
      have o4:Hid (∀ p,Rule.role ⟨la,le,mo,so,r0,r1,r2⟩ p=14->Gv F (Oq F) t=true):=fun p hp=>by
       have n5:=RW f5.o p hp;unfold U7 at b5;simp only at b5;rw[if_pos n5] at b5;exact b5
      clear b5 i7;rintro e w6 ⟨rfl,f8⟩;obtain⟨n6,g6,m9,g9,d5⟩:=f8;have n9:Hid (n6<=n+4):=by unfold Hid;omega
      have l5:=Hd g9;have e4:Hid (Bar gb W3 w6):=M.o.trans d5;obtain⟨t0,t1,t2,t3,t4,t5,c4,c5,c6⟩:=V.o w6 e4.o;clear g9 d5 m9 j2;have d6:Hid (∀ i (hi:i<t.kids.length) W n' gg,BK W kb sb fb gb n' S F T vS vF (.slice pt T.length ct) v5 gg->n'<=1000000000->Bar gb W3 W->Calls prog 103 #[.pointer (some ⟨kb,0,none⟩),.int .u8 ((Rule.role ⟨la,le,mo,so,r0,r1,r2⟩ i:Nat):Int),.agg #[.int .i64 t.op,.string (Oo t.sort),.string (Oo t.text),.int .i64 t.a,.int .i64 t.b,.slice qk t.kids.length dk],.int .i64 (i:Nat)] W fun e w'=>e=.returned (.bool (Kh (Ov (Oh (Og S))) F (Oq F) T t (Rule.role ⟨la,le,mo,so,r0,r1,r2⟩ i) i))/\O7 W w' kb sb fb gb n' S F T vS vF (.slice pt T.length ct) v5 1):=fun i hi W n' gg hb hn' hbar=>
       Tf hb t _ ((HI.o.below A.o).keep (hbar.keep (HH.o.next A.o).km)) i8.o _ i (ZP f5.o i) hi hT (by omega) hF HZ.o htx hn' (o4.o i)
      go_wp2_with fail
      clear t0 t1 t2 t3 t4 t5 c4 c5 c6
      go_loopw [77] (fun i wr=>∃ k:Nat,k<=t.kids.length/\i=.int .i64 (k:Nat)/\(∀ j,j<k->Kh (Ov (Oh (Og S))) F (Oq F) T t (Rule.role ⟨la,le,mo,so,r0,r1,r2⟩ j) j=true)/\∃ nr gr,nr<=n+4+k/\BK wr kb sb fb gb nr S F T vS vF (.slice pt T.length ct) v5 gr/\Bar gb W3 wr) (fun i _=>t.kids.length - (intOf i).toNat)
      case atStart=>exact⟨0,Jy _,rfl,fun j h=>absurd h (J1 _),n6,g6,by have:=n9.o;omega,l5.o,e4.o⟩
      case round=>
       obtain⟨k,hk,rfl,k0,nr,gr,k8,g8,b9⟩:=hrel;have k1:=Hd k0;have a8:=Hd k8;have O:=Hd g8;have d:=Hd b9;have s0:=V.o wr b9;clear k0 k8 g8 b9
       by_cases U:k<t.kids.length
       ·have j1:Hid (Kh (Ov (Oh (Og S))) F (Oq F) T t (Rule.role ⟨la,le,mo,so,r0,r1,r2⟩ k) k=false->J=false):=fun h=>by
         rw[j8.o,J9];intro h2;have:=Ju.1 h2 k (Y6.2 U);rw[h] at this
         cases this
        have d9:Hid (Kh (Ov (Oh (Og S))) F (Oq F) T t (Rule.role ⟨la,le,mo,so,r0,r1,r2⟩ k) k=true->∀ j,j<k+1->Kh (Ov (Oh (Og S))) F (Oq F) T t (Rule.role ⟨la,le,mo,so,r0,r1,r2⟩ j) j=true):=fun h j h2=>by
         rcases J0.1 h2 with h3|rfl
         ·exact k1.o j h3
         ·exact h
        have e7:Hid (∀ W,O7 wr W kb sb fb gb nr S F T vS vF (.slice pt T.length ct) v5 1->O7 w W kb sb fb gb n S F T vS vF (.slice pt T.length ct) v5 60):=fun W ha=>(O7.comp (m2:=4+k) (by have:=a8.o;omega) ((Bar.of A.o).trans d.o) ha).more (by omega);have d0:Hid (∀ W,O7 wr W kb sb fb gb nr S F T vS vF (.slice pt T.length ct) v5 1->∃ nr gr,nr<=n+4+(k+1)/\BK W kb sb fb gb nr S F T vS vF (.slice pt T.length ct) v5 gr/\Bar gb W3 W):=fun W ha=>by
         obtain⟨n',g',h1,h2,h3⟩:=ha;have:=a8.o;exact⟨n',g',by omega,h2,d.o.trans h3⟩
        have i1:(k:Int)<(t.kids.length:Int):=by omega
        rcases (show k=0∨k=1∨2<=k by omega) with rfl|rfl|q8
        ·have r3:min (0:Int) 2=0:=rfl
         cases Y:Kh (Ov (Oh (Og S))) F (Oq F) T t (Rule.role ⟨la,le,mo,so,r0,r1,r2⟩ 0) 0
         ·have HV:=Hd Y;have G:=Hd (j1.o Y);clear Y
          go_wp2_with fail
          go_region_held3 (fun W=>W.cell? ⟨w.heap.size,0,none⟩=some (.int .i64 t.op)/\W.cell? ⟨w.heap.size,1,none⟩=some (.string (Oo t.sort))/\W.cell? ⟨w.heap.size,2,none⟩=some (.string (Oo t.text))/\W.cell? ⟨w.heap.size,3,none⟩=some (.int .i64 t.a)/\W.cell? ⟨w.heap.size,4,none⟩=some (.int .i64 t.b)/\W.cell? ⟨w.heap.size,5,none⟩=some (.slice qk t.kids.length dk)/\W.cell? ⟨K.heap.size,4,none⟩=some (.int .u8 (r0:Nat))/\W.cell? ⟨K.heap.size,5,none⟩=some (.int .u8 (r1:Nat))/\W.cell? ⟨K.heap.size,6,none⟩=some (.int .u8 (r2:Nat))) (first
           | assumption|go_keep) (first
           | (go_at_call 103;refine (d6.o 0 U wr.drew nr _ (O.o.next (Jh _ _).drew) (by have:=a8.o;omega) (d.o.then (Jh _ _).drew)).mono ?_;rw[HV.o];rintro e w9 ⟨rfl,E⟩;have I:Hid (O7 wr w9 kb sb fb gb nr S F T vS vF (.slice pt T.length ct) v5 1):=O7.after E (Jh _ _).drew;have e5:=V.o w9 (by obtain⟨n7,g7,-,-,h7⟩:=I.o;exact d.o.trans h7);clear E))
          all_goals (go_wp2_with fail;go_ret;exact⟨Oz G.o.symm,e7.o _ I.o⟩)
         ·have HV:=Hd Y;have HR:=Hd (d9.o Y);clear Y
          go_wp2_with fail
          go_region_held3 (fun W=>W.cell? ⟨w.heap.size,0,none⟩=some (.int .i64 t.op)/\W.cell? ⟨w.heap.size,1,none⟩=some (.string (Oo t.sort))/\W.cell? ⟨w.heap.size,2,none⟩=some (.string (Oo t.text))/\W.cell? ⟨w.heap.size,3,none⟩=some (.int .i64 t.a)/\W.cell? ⟨w.heap.size,4,none⟩=some (.int .i64 t.b)/\W.cell? ⟨w.heap.size,5,none⟩=some (.slice qk t.kids.length dk)/\W.cell? ⟨K.heap.size,4,none⟩=some (.int .u8 (r0:Nat))/\W.cell? ⟨K.heap.size,5,none⟩=some (.int .u8 (r1:Nat))/\W.cell? ⟨K.heap.size,6,none⟩=some (.int .u8 (r2:Nat))) (first
           | assumption|go_keep) (first
           | (go_at_call 103;refine (d6.o 0 U wr.drew nr _ (O.o.next (Jh _ _).drew) (by have:=a8.o;omega) (d.o.then (Jh _ _).drew)).mono ?_;rw[HV.o];rintro e w9 ⟨rfl,E⟩;have I:Hid (O7 wr w9 kb sb fb gb nr S F T vS vF (.slice pt T.length ct) v5 1):=O7.after E (Jh _ _).drew;have e5:=V.o w9 (by obtain⟨n7,g7,-,-,h7⟩:=I.o;exact d.o.trans h7);clear E))
          all_goals (go_wp2_with fail;go_roundw)
          all_goals (try (case rel=>exact⟨0+1,by omega,by go_num,HR.o,d0.o _ I.o⟩))
          all_goals (try (case measure=>simp[intOf];omega))
        ·have r6:min (1:Int) 2=1:=rfl
         cases Y:Kh (Ov (Oh (Og S))) F (Oq F) T t (Rule.role ⟨la,le,mo,so,r0,r1,r2⟩ 1) 1
         ·have HV:=Hd Y;have G:=Hd (j1.o Y);clear Y
          go_wp2_with fail
          go_region_held3 (fun W=>W.cell? ⟨w.heap.size,0,none⟩=some (.int .i64 t.op)/\W.cell? ⟨w.heap.size,1,none⟩=some (.string (Oo t.sort))/\W.cell? ⟨w.heap.size,2,none⟩=some (.string (Oo t.text))/\W.cell? ⟨w.heap.size,3,none⟩=some (.int .i64 t.a)/\W.cell? ⟨w.heap.size,4,none⟩=some (.int .i64 t.b)/\W.cell? ⟨w.heap.size,5,none⟩=some (.slice qk t.kids.length dk)/\W.cell? ⟨K.heap.size,4,none⟩=some (.int .u8 (r0:Nat))/\W.cell? ⟨K.heap.size,5,none⟩=some (.int .u8 (r1:Nat))/\W.cell? ⟨K.heap.size,6,none⟩=some (.int .u8 (r2:Nat))) (first
           | assumption|go_keep) (first
           | (go_at_call 103;refine (d6.o 1 U wr.drew nr _ (O.o.next (Jh _ _).drew) (by have:=a8.o;omega) (d.o.then (Jh _ _).drew)).mono ?_;rw[HV.o];rintro e w9 ⟨rfl,E⟩;have I:Hid (O7 wr w9 kb sb fb gb nr S F T vS vF (.slice pt T.length ct) v5 1):=O7.after E (Jh _ _).drew;have e5:=V.o w9 (by obtain⟨n7,g7,-,-,h7⟩:=I.o;exact d.o.trans h7);clear E))
          all_goals (go_wp2_with fail;go_ret;exact⟨Oz G.o.symm,e7.o _ I.o⟩)
         ·have HV:=Hd Y;have HR:=Hd (d9.o Y);clear Y
          go_wp2_with fail
          go_region_held3 (fun W=>W.cell? ⟨w.heap.size,0,none⟩=some (.int .i64 t.op)/\W.cell? ⟨w.heap.size,1,none⟩=some (.string (Oo t.sort))/\W.cell? ⟨w.heap.size,2,none⟩=some (.string (Oo t.text))/\W.cell? ⟨w.heap.size,3,none⟩=some (.int .i64 t.a)/\W.cell? ⟨w.heap.size,4,none⟩=some (.int .i64 t.b)/\W.cell? ⟨w.heap.size,5,none⟩=some (.slice qk t.kids.length dk)/\W.cell? ⟨K.heap.size,4,none⟩=some (.int .u8 (r0:Nat))/\W.cell? ⟨K.heap.size,5,none⟩=some (.int .u8 (r1:Nat))/\W.cell? ⟨K.heap.size,6,none⟩=some (.int .u8 (r2:Nat))) (first
           | assumption|go_keep) (first
           | (go_at_call 103;refine (d6.o 1 U wr.drew nr _ (O.o.next (Jh _ _).drew) (by have:=a8.o;omega) (d.o.then (Jh _ _).drew)).mono ?_;rw[HV.o];rintro e w9 ⟨rfl,E⟩;have I:Hid (O7 wr w9 kb sb fb gb nr S F T vS vF (.slice pt T.length ct) v5 1):=O7.after E (Jh _ _).drew;have e5:=V.o w9 (by obtain⟨n7,g7,-,-,h7⟩:=I.o;exact d.o.trans h7);clear E))
          all_goals (go_wp2_with fail;go_roundw)
          all_goals (try (case rel=>exact⟨1+1,by omega,by go_num,HR.o,d0.o _ I.o⟩))
          all_goals (try (case measure=>simp[intOf];omega))
        ·have r7:min (k:Int) 2=2:=by omega
         have j9:Rule.role ⟨la,le,mo,so,r0,r1,r2⟩ k=r2:=by unfold Rule.role;rw[if_neg (by omega),if_neg (by omega)]
         have n1:=Hd j9;have h0:Hid (∀ W n' gg,BK W kb sb fb gb n' S F T vS vF (.slice pt T.length ct) v5 gg->n'<=1000000000->Bar gb W3 W->Calls prog 103 #[.pointer (some ⟨kb,0,none⟩),.int .u8 (r2:Nat),.agg #[.int .i64 t.op,.string (Oo t.sort),.string (Oo t.text),.int .i64 t.a,.int .i64 t.b,.slice qk t.kids.length dk],.int .i64 (k:Nat)] W fun e w'=>e=.returned (.bool (Kh (Ov (Oh (Og S))) F (Oq F) T t (Rule.role ⟨la,le,mo,so,r0,r1,r2⟩ k) k))/\O7 W w' kb sb fb gb n' S F T vS vF (.slice pt T.length ct) v5 1):=fun W n' gg h1 h2 h3=>by
          have h:=d6.o k U W n' gg h1 h2 h3;rw[n1.o] at h ⊢;exact h
         clear j9
         cases Y:Kh (Ov (Oh (Og S))) F (Oq F) T t (Rule.role ⟨la,le,mo,so,r0,r1,r2⟩ k) k
         ·have HV:=Hd Y;have G:=Hd (j1.o Y);clear Y
          go_wp2_with fail
          go_region_held3 (fun W=>W.cell? ⟨w.heap.size,0,none⟩=some (.int .i64 t.op)/\W.cell? ⟨w.heap.size,1,none⟩=some (.string (Oo t.sort))/\W.cell? ⟨w.heap.size,2,none⟩=some (.string (Oo t.text))/\W.cell? ⟨w.heap.size,3,none⟩=some (.int .i64 t.a)/\W.cell? ⟨w.heap.size,4,none⟩=some (.int .i64 t.b)/\W.cell? ⟨w.heap.size,5,none⟩=some (.slice qk t.kids.length dk)/\W.cell? ⟨K.heap.size,4,none⟩=some (.int .u8 (r0:Nat))/\W.cell? ⟨K.heap.size,5,none⟩=some (.int .u8 (r1:Nat))/\W.cell? ⟨K.heap.size,6,none⟩=some (.int .u8 (r2:Nat))) (first
           | assumption|go_keep) (first
           | (go_at_call 103;refine (h0.o wr.drew nr _ (O.o.next (Jh _ _).drew) (by have:=a8.o;omega) (d.o.then (Jh _ _).drew)).mono ?_;rw[HV.o];rintro e w9 ⟨rfl,E⟩;have I:Hid (O7 wr w9 kb sb fb gb nr S F T vS vF (.slice pt T.length ct) v5 1):=O7.after E (Jh _ _).drew;have e5:=V.o w9 (by obtain⟨n7,g7,-,-,h7⟩:=I.o;exact d.o.trans h7);clear E))
          all_goals (go_wp2_with fail;go_ret;exact⟨Oz G.o.symm,e7.o _ I.o⟩)
         ·have HV:=Hd Y;have HR:=Hd (d9.o Y);clear Y
          go_wp2_with fail
          go_region_held3 (fun W=>W.cell? ⟨w.heap.size,0,none⟩=some (.int .i64 t.op)/\W.cell? ⟨w.heap.size,1,none⟩=some (.string (Oo t.sort))/\W.cell? ⟨w.heap.size,2,none⟩=some (.string (Oo t.text))/\W.cell? ⟨w.heap.size,3,none⟩=some (.int .i64 t.a)/\W.cell? ⟨w.heap.size,4,none⟩=some (.int .i64 t.b)/\W.cell? ⟨w.heap.size,5,none⟩=some (.slice qk t.kids.length dk)/\W.cell? ⟨K.heap.size,4,none⟩=some (.int .u8 (r0:Nat))/\W.cell? ⟨K.heap.size,5,none⟩=some (.int .u8 (r1:Nat))/\W.cell? ⟨K.heap.size,6,none⟩=some (.int .u8 (r2:Nat))) (first
           | assumption|go_keep) (first
           | (go_at_call 103;refine (h0.o wr.drew nr _ (O.o.next (Jh _ _).drew) (by have:=a8.o;omega) (d.o.then (Jh _ _).drew)).mono ?_;rw[HV.o];rintro e w9 ⟨rfl,E⟩;have I:Hid (O7 wr w9 kb sb fb gb nr S F T vS vF (.slice pt T.length ct) v5 1):=O7.after E (Jh _ _).drew;have e5:=V.o w9 (by obtain⟨n7,g7,-,-,h7⟩:=I.o;exact d.o.trans h7);clear E))
          all_goals (go_wp2_with fail;go_roundw)
          all_goals (try (case rel=>exact⟨k+1,by omega,by go_num,HR.o,d0.o _ I.o⟩))
          all_goals (try (case measure=>simp[intOf];omega))
       ·have G:Hid (J=true):=by
         unfold Hid;rw[j8.o,Ju];intro p hp;have:=Y6.1 hp;exact k1.o p (by omega)
        have HA:Hid (O7 w wr kb sb fb gb n S F T vS vF (.slice pt T.length ct) v5 60):=⟨nr,gr,by have:=a8.o;omega,O.o,(Bar.of A.o).trans d.o⟩;have z5:¬ (k:Int)<(t.kids.length:Int):=by omega
        go_wp2_with fail
        go_ret
        exact⟨Oz G.o.symm,HA.o⟩
def K2 (ks:List Int):List UInt8:=ks.flatMap (fun x=>[UInt8.ofNat (x.toNat / 256),UInt8.ofNat x.toNat])
def DJ (l:List UInt8):List Value:=l.map (fun c=>.int .u8 (c.toNat:Nat))
theorem OX {ks:List Int}{k:Nat}(h:k<ks.length):K2 (ks.take (k+1))=K2 (ks.take k)++[UInt8.ofNat (ks[k].toNat / 256),UInt8.ofNat ks[k].toNat]:=by
 unfold K2;rw[Ye h,V0];simp
theorem M0 (ks:List Int):(K2 ks).length=2*ks.length:=by
 induction ks with
 | nil=>rfl
 | cons x r ih=>unfold K2 at ih ⊢;simp only[Ug,Y7,Yo,Zh,ih];omega
theorem XP:(prog.info? 5).map (fun i=>(i.zero,i.size,i.bytes))=some (some (.int .u8 0),1,1):=by kernel_rfl
theorem M5 (t:Tm)(vk:Value)(w:World)(hk:U6 w vk t.kids)(hr:∀ x∈t.kids,0<=x/\x<65536)(hl:t.kids.length<=50) :
 Calls prog 85 #[Ie t vk] w fun e w'=>e=.returned (.agg #[.int .i64 t.op,.string (Oo t.sort),.string (Oo t.text),.int .i64 t.a,.int .i64 t.b,.string (Oo (K2 t.kids))])/\Up w w':=by
 obtain⟨qk,dk,rfl,j1,e6,d3⟩:=hk;have HK:=Hd d3;have HR:=Hd hr;unfold maxLen at e6;obtain⟨i0,V,f9,b8,d7⟩:=info_parts XP;clear d3 hr;unfold Ie
 go_enter func85,ntmps85
 go_wp2_with (at_make;refine wpList_make_own _ rfl _ _ 127 rfl (w.heap.size+2) 5 i0 (.int .u8 0) 1 underlying127 V f9 b8 .i64 .i64 _ 100 rfl rfl ?m1 ?m2 ?m3 ?m4 ?_)
 case m1=>decide
 case m2=>rw[d7];decide
 case m3=>unfold maxLen;decide
 case m4=>simp
 intro w2 J d;have c6:Hid (Up w ((w.alloc (.cells #[.int .i64 t.op,.string (Oo t.sort),.string (Oo t.text),.int .i64 t.a,.int .i64 t.b,.slice qk t.kids.length dk] 57)).alloc (.cells #[.int .i64 0,.string ⟨#[]⟩,.string ⟨#[]⟩,.int .i64 0,.int .i64 0,.string ⟨#[]⟩] 115))):=((Jh _ _).alloc Of _).alloc (by rw[Ji];omega) _;have K:Hid (Below (w.heap.size+2) ((w.alloc (.cells #[.int .i64 t.op,.string (Oo t.sort),.string (Oo t.text),.int .i64 t.a,.int .i64 t.b,.slice qk t.kids.length dk] 57)).alloc (.cells #[.int .i64 0,.string ⟨#[]⟩,.string ⟨#[]⟩,.int .i64 0,.int .i64 0,.string ⟨#[]⟩] 115)) w2):=⟨d.os,d.tape,d.output,d.size,fun k hk=>d.block k (by simp;omega) (fun e=>by cases e)⟩;have b5:Hid (Bx w2 w.heap.size [.int .i64 t.op,.string (Oo t.sort),.string (Oo t.text),.int .i64 t.a,.int .i64 t.b,.slice qk t.kids.length dk]):=((Ox w _ _).alloc _).below (N:=w.heap.size+2) (by omega) K.o;have g0:Hid (Bx w2 (w.heap.size+1) [.int .i64 0,.string ⟨#[]⟩,.string ⟨#[]⟩,.int .i64 0,.int .i64 0,.string ⟨#[]⟩]):=by
  have h:=Ox (w.alloc (.cells #[.int .i64 t.op,.string (Oo t.sort),.string (Oo t.text),.int .i64 t.a,.int .i64 t.b,.slice qk t.kids.length dk] 57)) [.int .i64 0,.string ⟨#[]⟩,.string ⟨#[]⟩,.int .i64 0,.int .i64 0,.string ⟨#[]⟩] 115;rw[Ji] at h;exact h.below (N:=w.heap.size+2) (by omega) K.o
 have e7:Hid (Up w w2):=c6.o.trans (K.o.mono (by omega));have b4:Hid (w.heap.size+2<=w2.heap.size):=by have:=d.size;simp at this;unfold Hid;omega
 have d1:=Hd J;clear J d c6;obtain⟨N,hN⟩:=O1 (w.heap.size+2);have c8:w.heap.size+1+1=N:=by omega
 rw[hN] at d1 b4 K;rw[c8];have HN:=Hd hN;have t5:=b5.o.cell 5;simp only[Jo,Jr] at t5;clear hN c8
 go_wp2_with fail
 clear t5
 go_loopw [3,10] (fun v i wr=>∃ k:Nat,k<=t.kids.length/\i=.int .i64 (k:Nat)/\v=.slice (some ⟨N,0,none⟩) (2*k) 100/\wr.ownsRow N 5 1 (.slice (some ⟨N,0,none⟩) (2*k) 100) (2*k) (DJ (K2 (t.kids.take k)))/\Below N w2 wr) (fun _ i _=>t.kids.length - (intOf i).toNat)
 case atStart=>exact⟨0,Jy _,rfl,rfl,d1.o,Jh _ _⟩
 case round=>
  obtain⟨k,hk,rfl,rfl,Y,a7⟩:=hrel;have A:=Hd Y;have O:=Hd a7;have b6:Hid (Up w wr):=e7.o.trans (a7.mono (by have:=HN.o;omega));clear Y a7
  by_cases I:k<t.kids.length
  ·rcases HK.o with e0|⟨bq,rfl,e8,b7⟩
   ·rw[e0] at I;cases I
   have cx:=(b6.o.cell (p:=⟨bq,k,none⟩) e8).trans (b7 k I);clear b7;have hx:=HR.o _ (Jw I);have b9:=Hd (OX I);obtain⟨y,hy⟩:∃ y:Nat,t.kids[k]=(y:Int):=⟨t.kids[k].toNat,by omega⟩;rw[hy] at cx hx b9;clear hy;have g2:=Hd hx;clear hx;have h8:(0:Int)<=(k:Int):=by omega
   have i1:(k:Int)<(t.kids.length:Int):=by omega
   have g1:Hid ((wr.alloc (.cells #[.int .u8 ((y:Int) / 256 % 256),.int .u8 ((y:Int) % 256)] 5)).ownsRow N 5 1 (.slice (some ⟨N,0,none⟩) (2*k) 100) (2*k) (DJ (K2 (t.kids.take k)))):=A.o.alloc _
   go_wp2_with (at_builtin;refine wpList_append_fits _ rfl _ _ 127 rfl N 5 i0 1 underlying127 V b8 N (2*k) 100 _ rfl g1.o ⟨wr.heap.size,0,none⟩ 2 2 [.int .u8 ((y:Int) / 256 % 256),.int .u8 ((y:Int) % 256)] rfl rfl ?c0 ?c1 ?c2 ?_)
   case c0=>exact World.news_of_block (cs:=#[.int .u8 ((y:Int) / 256 % 256),.int .u8 ((y:Int) % 256)]) (t:=5) (fr:=(0,0)) (heap_alloc_new wr _)
   case c1=>intro u hu;simp at hu;rcases hu with rfl|rfl<;>rfl
   case c2=>omega
   intro w5 G U;have f8:Hid (Below N w2 w5):=Nl O.o A.o U (by have:=O.o.size;have:=b4.o;omega);have g4:Hid (w5.ownsRow N 5 1 (.slice (some ⟨N,0,none⟩) (2*(k+1)) 100) (2*(k+1)) (DJ (K2 (t.kids.take (k+1))))):=by
    have hb:=g2.o;unfold Hid;rw[b9.o];have e:DJ (K2 (t.kids.take k)++[UInt8.ofNat ((y:Int).toNat / 256),UInt8.ofNat (y:Int).toNat])=DJ (K2 (t.kids.take k))++[.int .u8 ((y:Int) / 256 % 256),.int .u8 ((y:Int) % 256)]:=by
     unfold DJ;rw[Zd];simp only[Vy,Ua,Int.toNat_natCast,UInt8.toNat_ofNat']
     congr 2
    rw[e];exact G
   clear G U
   go_wp2_with fail
   go_roundw
   case rel=>exact⟨k+1,by omega,by go_num,rfl,g4.o,f8.o⟩
   case measure=>simp[intOf];omega
  ·obtain rfl:k=t.kids.length:=by omega
   have Z:(convert 127 9 (.slice (some ⟨N,0,none⟩) (2*t.kids.length) 100)).run prog wr=.ok (.string (Oo (K2 t.kids))) wr:=by
    have h:=A.o;rw[Yl] at h;have e9:=M0 t.kids;have:=run_convert_bytes_back (P:=prog) wr 127 9 5 ⟨N,0,none⟩ 100 (K2 t.kids) underlying127 underlying5 underlying9 (fun j hj=>by
     have:=h.cells (g:=N) rfl j (.int .u8 ((K2 t.kids)[j].toNat:Nat)) (by simp[DJ,List.getElem?_eq_getElem hj]);exact this)
    rw[e9] at this;exact this
   have d0:=b5.o.below (N:=N) (by have:=HN.o;omega) O.o;have M:=g0.o.below (N:=N) (by have:=HN.o;omega) O.o;obtain⟨t0,t1,t2,t3,t4⟩:=d0.k5;obtain⟨r0,r1,r2,r3,r4,r5⟩:=M.k6;obtain⟨f0,f1,f2,f3,f4,f5⟩:=M.f6;have d2:=(((((M.set 0 (.int .i64 t.op)).set 1 (.string (Oo t.sort))).set 2 (.string (Oo t.text))).set 3 (.int .i64 t.a)).set 4 (.int .i64 t.b)).set 5 (.string (Oo (K2 t.kids)));have E:=Hd d2;have hq:w.heap.size<=w.heap.size+1:=by omega
   clear d0 M d2 A
   go_wp2_with fail
   have e0:=E.o.cell 0;have e1:=E.o.cell 1;have e2:=E.o.cell 2;have e3:=E.o.cell 3;have e4:=E.o.cell 4;have e5:=E.o.cell 5;simp only[Je,Jd,Jo,Jr] at e0 e1 e2 e3 e4 e5;refine Jj (v:=.agg #[.int .i64 t.op,.string (Oo t.sort),.string (Oo t.text),.int .i64 t.a,.int .i64 t.b,.string (Oo (K2 t.kids))]) ?_ rfl ⟨rfl,(((((b6.o.setCell (p:=⟨w.heap.size+1,0,none⟩) hq _).setCell (p:=⟨w.heap.size+1,1,none⟩) hq _).setCell (p:=⟨w.heap.size+1,2,none⟩) hq _).setCell (p:=⟨w.heap.size+1,3,none⟩) hq _).setCell (p:=⟨w.heap.size+1,4,none⟩) hq _).setCell (p:=⟨w.heap.size+1,5,none⟩) hq _⟩;clear t0 t1 t2 t3 t4 r0 r1 r2 r3 r4 r5 f0 f1 f2 f3 f4 f5 Z;simp[results,results85,go_sem,e0,e1,e2,e3,e4,e5]
def G7 (ks:List Int):List Value:=ks.map (Value.int .i64)
theorem ZT (vk:Value)(ks:List Int)(w:World)(hk:U6 w vk ks)(hl:ks.length<=1000000) :
 Calls prog 104 #[vk] w fun e w'=>∃ v',e=.returned v'/\w'.ownsRow w.heap.size 3 1 v' ks.length (G7 ks)/\Up w w':=by
 obtain⟨p,c,rfl,d,A,h3⟩:=hk
 rcases h3 with rfl|⟨b,rfl,hb,hc⟩
 ·cases p with
  | none=>
    refine (Tryz.slices_Clone_int_nil 0 c w).mono ?_;rintro e w' ⟨rfl,rfl⟩;exact⟨_,rfl,⟨rfl,.inl ⟨rfl,rfl⟩⟩,Jh _ _⟩
  | some a=>
    refine (Tryz.slices_Clone_int_zero a c w).mono ?_;rintro e w' ⟨v',rfl,h,-,hb⟩;exact⟨v',rfl,h,hb⟩
 refine (Tryz.slices_Clone_int b 0 ks.length c ks w Of (by omega) (fun j hj=>?_)).mono ?_
 ·rw[Y3,hc j hj];simp[List.getD,List.getElem?_eq_getElem hj]
 rintro e w' ⟨v',rfl,h,-,hb⟩;rw[Yl] at h;exact⟨v',rfl,h,hb⟩
theorem E7 {w:World}{base base':Nat}{e:TypeId}{size:Nat}{v:Value}{n:Nat}{xs:List Value}(h:w.ownsRow base e size v n xs)(hb:base'<=base):w.ownsRow base' e size v n xs:=by
 refine⟨h.1,?_⟩
 rcases h.2 with j|⟨g,cap,d,e,A,h3⟩
 ·exact .inl j
 exact .inr ⟨g,cap,d,e,Yk hb A,h3⟩
theorem Bq (t:Tm)(vk:Value)(w:World)(hk:U6 w vk t.kids)(hl:t.kids.length<=1000000)(hts:t.sort.length<=1048576)(htx:t.text.length<=1048576) :
 Calls prog 86 #[Ie t vk] w fun e w'=>∃ p n c,e=.returned (Ie t (.slice p n c))/\w'.ownsRow w.heap.size 3 1 (.slice p n c) t.kids.length (G7 t.kids)/\Up w w':=by
 have HI:=Hd hk;obtain⟨qk,dk,rfl,e7,d3,-⟩:=hk;clear e7 d3;have d5:(Oo t.sort).size<=1048576:=by show t.sort.toArray.size<=_;simpa using hts
 have e6:(Oo t.text).size<=1048576:=by show t.text.toArray.size<=_;simpa using htx
 unfold Ie
 go_enter func86,ntmps86
 go_wp2_with fail
 obtain⟨W1,I⟩:=O1 ((w.alloc (.cells #[.int .i64 t.op,.string (Oo t.sort),.string (Oo t.text),.int .i64 t.a,.int .i64 t.b,.slice qk t.kids.length dk] 57)).alloc (.cells #[.int .i64 0,.string ⟨#[]⟩,.string ⟨#[]⟩,.int .i64 0,.int .i64 0,.slice none 0 0] 57));have c8:Hid (Up w W1):=by unfold Hid;rw[<-I];exact ((Jh _ _).alloc Of _).alloc (by rw[Ji];omega) _
 have d1:Hid (W1.heap.size=w.heap.size+2):=by unfold Hid;rw[<-I];simp
 have j:Hid (Bx W1 w.heap.size [.int .i64 t.op,.string (Oo t.sort),.string (Oo t.text),.int .i64 t.a,.int .i64 t.b,.slice qk t.kids.length dk]):=by unfold Hid;rw[<-I];exact (Ox w _ _).alloc _
 have A:Hid (Bx W1 (w.heap.size+1) [.int .i64 0,.string ⟨#[]⟩,.string ⟨#[]⟩,.int .i64 0,.int .i64 0,.slice none 0 0]):=by unfold Hid;rw[<-I];have h:=Ox (w.alloc (.cells #[.int .i64 t.op,.string (Oo t.sort),.string (Oo t.text),.int .i64 t.a,.int .i64 t.b,.slice qk t.kids.length dk] 57)) [.int .i64 0,.string ⟨#[]⟩,.string ⟨#[]⟩,.int .i64 0,.int .i64 0,.slice none 0 0] 57;rw[Ji] at h;exact h
 rw[I];clear I;refine (K9 (Oo t.sort) _ d5).mono ?_;rintro e w2 ⟨rfl,K⟩;have d:=Hd (j.o.below j.o.lt K);have G:=Hd (A.o.below A.o.lt K);have b8:=c8.up K;have d7:Hid (w.heap.size+2<=w2.heap.size):=by have:=K.size;have:=d1.o;unfold Hid;omega
 clear K j A c8 d1;have a1:=d.o.cell 1;have a2:=d.o.cell 2;simp only[Jo,Jr] at a1 a2;have f1:=d.o.frozen 1;have l0:w.heap.size≠w.heap.size+1:=by omega
 go_wp2_with fail
 have j:Hid (Bx (w2.setCell ⟨w.heap.size,1,none⟩ (.string (Oo t.sort))) w.heap.size [.int .i64 t.op,.string (Oo t.sort),.string (Oo t.text),.int .i64 t.a,.int .i64 t.b,.slice qk t.kids.length dk]):=d.o.set 1 _;have A:=Hd (G.o.other ⟨w.heap.size,1,none⟩ (by simp) (.string (Oo t.sort)));have Y:Hid (Up w (w2.setCell ⟨w.heap.size,1,none⟩ (.string (Oo t.sort)))):=b8.o.setCell (p:=⟨w.heap.size,1,none⟩) Of _;have b7:Hid (w.heap.size+2<=(w2.setCell ⟨w.heap.size,1,none⟩ (.string (Oo t.sort))).heap.size):=by have:=d7.o;unfold Hid;simp[World.setCell];omega
 clear a1 a2 f1 d G;generalize w2.setCell ⟨w.heap.size,1,none⟩ (.string (Oo t.sort))=W3 at j A Y b7 ⊢;refine (K9 (Oo t.text) _ e6).mono ?_;rintro e w4 ⟨rfl,J⟩;have d:=Hd (j.o.below j.o.lt J);have G:=Hd (A.o.below A.o.lt J);have d0:=Y.up J;have d9:Hid (w.heap.size+2<=w4.heap.size):=by have:=J.size;have:=b7.o;unfold Hid;omega
 clear J j A Y b8;have a2:=d.o.cell 2;have a5:=d.o.cell 5;simp only[Jo,Jr] at a2 a5;have f2:=d.o.frozen 2
 go_wp2_with fail
 have j:Hid (Bx (w4.setCell ⟨w.heap.size,2,none⟩ (.string (Oo t.text))) w.heap.size [.int .i64 t.op,.string (Oo t.sort),.string (Oo t.text),.int .i64 t.a,.int .i64 t.b,.slice qk t.kids.length dk]):=d.o.set 2 _;have A:=Hd (G.o.other ⟨w.heap.size,2,none⟩ (by simp) (.string (Oo t.text)));have O:Hid (Up w (w4.setCell ⟨w.heap.size,2,none⟩ (.string (Oo t.text)))):=d0.o.setCell (p:=⟨w.heap.size,2,none⟩) Of _;have b6:Hid (w.heap.size+2<=(w4.setCell ⟨w.heap.size,2,none⟩ (.string (Oo t.text))).heap.size):=by have:=d9.o;unfold Hid;simp[World.setCell];omega
 clear a2 a5 f2 d G;generalize w4.setCell ⟨w.heap.size,2,none⟩ (.string (Oo t.text))=W5 at j A O b6 ⊢;refine (ZT _ t.kids _ (HI.o.below O.o) hl).mono ?_;rintro e w6 ⟨v6,rfl,E,M⟩;obtain⟨U,V,rfl⟩:=Eg E;have d:=Hd (j.o.below j.o.lt M);have G:=Hd (A.o.below A.o.lt M);have d4:=O.up M;have b4:Hid (w6.ownsRow (w.heap.size+2) 3 1 (.slice U t.kids.length V) t.kids.length (G7 t.kids)):=by
  refine⟨E.1,?_⟩
  rcases E.2 with h0|⟨g,cap,d8,e,hg,h3⟩
  ·exact .inl h0
  exact .inr ⟨g,cap,d8,e,by have:=b6.o;omega,h3⟩
 clear M j A O d0 E;obtain⟨a0,a1,a2,a3,a4,a5⟩:=d.o.k6;obtain⟨r0,r1,r2,r3,r4,r5⟩:=G.o.k6;have f5:=d.o.frozen 5;obtain⟨g0,g1,g2,g3,g4,g5⟩:=G.o.f6;have Z:w.heap.size<=w.heap.size+1:=by omega
 have HE:=Hd ((((((((G.o.other ⟨w.heap.size,5,none⟩ (by simp) (.slice U t.kids.length V)).set 0 (.int .i64 t.op)).set 1 (.string (Oo t.sort))).set 2 (.string (Oo t.text))).set 3 (.int .i64 t.a)).set 4 (.int .i64 t.b)).set 5 (.slice U t.kids.length V)));have d6:=Hd ((((((((d4.o.setCell (p:=⟨w.heap.size,5,none⟩) Of (.slice U t.kids.length V)).setCell (p:=⟨w.heap.size+1,0,none⟩) Z (.int .i64 t.op)).setCell (p:=⟨w.heap.size+1,1,none⟩) Z (.string (Oo t.sort))).setCell (p:=⟨w.heap.size+1,2,none⟩) Z (.string (Oo t.text))).setCell (p:=⟨w.heap.size+1,3,none⟩) Z (.int .i64 t.a)).setCell (p:=⟨w.heap.size+1,4,none⟩) Z (.int .i64 t.b)).setCell (p:=⟨w.heap.size+1,5,none⟩) Z (.slice U t.kids.length V)))
 go_wp2_with fail
 have e0:=HE.o.cell 0;have e1:=HE.o.cell 1;have e2:=HE.o.cell 2;have e3:=HE.o.cell 3;have e4:=HE.o.cell 4;have e5:=HE.o.cell 5;simp only[Je,Jd,Jo,Jr] at e0 e1 e2 e3 e4 e5;refine Jj (v:=.agg #[.int .i64 t.op,.string (Oo t.sort),.string (Oo t.text),.int .i64 t.a,.int .i64 t.b,.slice U t.kids.length V]) ?_ rfl ⟨U,t.kids.length,V,rfl,E7 (Oi b4.o (fun g hg=>?_)) (by omega),d6.o⟩
 ·clear a0 a1 a2 a3 a4 a5 r0 r1 r2 r3 r4 r5 f5 g0 g1 g2 g3 g4 g5;simp[results,results86,go_sem,e0,e1,e2,e3,e4,e5]
 have h2:=Ot b4.o g hg;have n1:g≠w.heap.size+1:=by omega
 have n0:g≠w.heap.size:=by omega
 rw[Jq _ _ _ _ n1,Jq _ _ _ _ n1,Jq _ _ _ _ n1,Jq _ _ _ _ n1,Jq _ _ _ _ n1,Jq _ _ _ _ n1,Jq _ _ _ _ n0]
end Go.Proofs.YtipgjenolpofpaaGreatDoor
