import Derived.Test.YtipgjenolpofpaaGreatDoorP25
set_option maxRecDepth 100000
set_option maxHeartbeats 8000000
namespace Go.Proofs.YtipgjenolpofpaaGreatDoor
open Go.ChangeShapes Go.WideShapes Go.ChangeAt Go.RowKit Go.Proofs.Tryz
theorem YM {w:World}{b:Nat}{f:List UInt8->Option Nat}(h:G3 w b f)(s:ByteArray)(hs:s.size<=1048576):∀ i,f s.data.toList=some i->(Instr.lookup 86 (.map (some b)) (.string s) false).run prog w=.ok (.int .i64 (i:Nat)) w:=by
 intro i M;obtain⟨n,D,hn,j,G⟩:=h;have I:(zeroValue 3).run prog w=.ok (.int .i64 0) w:=rfl;obtain⟨v,O,d,K⟩:=j.lookup Il underlying86 I (plainElem_int underlying3 (by decide)) (N0 s (by unfold maxLen;omega));obtain⟨c,rfl,hc,E⟩:=plainElem_int_inv underlying3 K;have J:=(G s.data.toList).2 i M;have A:=congrArg Prod.fst hc;rw[J] at A;simp at A;rw[d,A]
theorem Tf {w:World}{kb sb fb gb n:Nat}{S:List (List UInt8)}{F:List Fn}{T:List Tm}{vS vF vT v5:Value}{g:List UInt8->Option SI}(h:BK w kb sb fb gb n S F T vS vF vT v5 g)(t:Tm)(vk:Value)(hk:U6 w vk t.kids)(hr:I6 T.length t=true)(r i:Nat)(hr20:r<=20)(hi:i<t.kids.length)(hT:T.length<=1000000)(hl:t.kids.length<=1000000)(_hF:F.length<=1000)(hz:∀ u∈T,u.sort.length<=1048576)(htx:t.text.length<=1048576)(hn:n<=1000000000)(hcall:r=14->Gv F (Oq F) t=true) :
 Calls prog 103 #[.pointer (some ⟨kb,0,none⟩),.int .u8 (r:Nat),Ie t vk,.int .i64 (i:Nat)] w fun e w'=>e=.returned (.bool (Kh (Ov (Oh (Og S))) F (Oq F) T t r i))/\O7 w w' kb sb fb gb n S F T vS vF vT v5 1:=by
 obtain⟨qk,dk,rfl,l5,l3,h8⟩:=hk;have HH:=Hd h;have HI:Hid (U6 w (.slice qk t.kids.length dk) t.kids):=⟨qk,dk,rfl,l5,l3,h8⟩;have e4:0<t.kids.length:=by omega
 have HX:=Hd (YC hr i hi);have l6:=Hd (YC hr 0 e4);have HZ:=Hd (Lk hz t.kids[i]);have i1:=Hd (Lk hz t.kids[0]);have k8:=Hd hcall;have k0:(r:Int)<=255:=by omega
 clear h h8 hr hz hcall;have HB:Hid (Up w (w.alloc (.cells #[.int .i64 t.op,.string (Oo t.sort),.string (Oo t.text),.int .i64 t.a,.int .i64 t.b,.slice qk t.kids.length dk] 57))):=Oy _ _;have e6:Hid (Bx (w.alloc (.cells #[.int .i64 t.op,.string (Oo t.sort),.string (Oo t.text),.int .i64 t.a,.int .i64 t.b,.slice qk t.kids.length dk] 57)) w.heap.size [.int .i64 t.op,.string (Oo t.sort),.string (Oo t.text),.int .i64 t.a,.int .i64 t.b,.slice qk t.kids.length dk]):=Ox _ _ _;have HC:Hid (∀ W,Up w W->Calls prog 122 #[.pointer (some ⟨kb,0,none⟩),.agg #[.int .i64 t.op,.string (Oo t.sort),.string (Oo t.text),.int .i64 t.a,.int .i64 t.b,.slice qk t.kids.length dk],.int .i64 (i:Nat)] W fun e w'=>∃ pa la ca,e=.returned (Ie (Ky T t.kids[i]) (.slice pa la ca))/\Up W w'):=fun W hW=>B6 (HH.o.next hW).box.c7.2.2.1 (HH.o.next hW).tr t _ (HI.o.below hW) i hi HX.o hT hl;have d4:Hid (∀ W,Up w W->Calls prog 122 #[.pointer (some ⟨kb,0,none⟩),.agg #[.int .i64 t.op,.string (Oo t.sort),.string (Oo t.text),.int .i64 t.a,.int .i64 t.b,.slice qk t.kids.length dk],.int .i64 0] W fun e w'=>∃ pa la ca,e=.returned (Ie (Ky T t.kids[0]) (.slice pa la ca))/\Up W w'):=fun W hW=>B6 (HH.o.next hW).box.c7.2.2.1 (HH.o.next hW).tr t _ (HI.o.below hW) 0 e4 l6.o hT hl;have n4:Hid (Kh (Ov (Oh (Og S))) F (Oq F) T t r i=Kh (Ov (Oh (Og S))) F (Oq F) T t r i):=rfl;obtain⟨u,hu⟩:=O1 (Ky T t.kids[i]);obtain⟨u0,f5⟩:=O1 (Ky T t.kids[0]);have HU:Hid (Ky T ((t.kids[i]?).getD 0)=u/\Ky T ((t.kids[0]?).getD 0)=u0):=by unfold Hid;rw[Wj hi,Wj e4];exact⟨hu,f5⟩
 rw[hu] at HZ HC;rw[f5] at i1 d4;clear hu f5;have i7:(Oo u.sort).size<=1048576:=by show u.sort.toArray.size<=_;simpa using HZ.o
 have e1:(Oo u0.sort).size<=1048576:=by show u0.sort.toArray.size<=_;simpa using i1.o
 unfold Ie
 go_enter func103,ntmps103
 go_wp2_with fail
 refine (HC.o _ HB.o).mono ?_;rintro e w2 ⟨pa,la,ca,rfl,g3⟩;have g2:=HB.up g3;have HY:=Hd (e6.o.below e6.o.lt g3);clear g3;have d:Hid (Up w (w2.alloc (.cells #[.int .i64 u.op,.string (Oo u.sort),.string (Oo u.text),.int .i64 u.a,.int .i64 u.b,.slice pa la ca] 57))):=g2.o.alloc g2.o.size _;have d7:=Hd (HY.o.alloc (.cells #[.int .i64 u.op,.string (Oo u.sort),.string (Oo u.text),.int .i64 u.a,.int .i64 u.b,.slice pa la ca] 57));have d8:Hid (Bx (w2.alloc (.cells #[.int .i64 u.op,.string (Oo u.sort),.string (Oo u.text),.int .i64 u.a,.int .i64 u.b,.slice pa la ca] 57)) w2.heap.size [.int .i64 u.op,.string (Oo u.sort),.string (Oo u.text),.int .i64 u.a,.int .i64 u.b,.slice pa la ca]):=Ox _ _ _;unfold Ie
 go_upto_block 0 with fail
 obtain⟨W3,j4⟩:=O1 (w2.alloc (.cells #[.int .i64 u.op,.string (Oo u.sort),.string (Oo u.text),.int .i64 u.a,.int .i64 u.b,.slice pa la ca] 57));rw[j4] at d d7 d8 ⊢;clear j4;obtain⟨t0,t1,t2,t3,t4,t5⟩:=d7.o.k6;obtain⟨x0,x1,x2⟩:=d8.o.k3;have a8:Hid (∀ W,Up W3 W->(W.cell? ⟨w.heap.size,0,none⟩=some (.int .i64 t.op)/\W.cell? ⟨w.heap.size,1,none⟩=some (.string (Oo t.sort))/\W.cell? ⟨w.heap.size,2,none⟩=some (.string (Oo t.text))/\W.cell? ⟨w.heap.size,3,none⟩=some (.int .i64 t.a)/\W.cell? ⟨w.heap.size,4,none⟩=some (.int .i64 t.b)/\W.cell? ⟨w.heap.size,5,none⟩=some (.slice qk t.kids.length dk)/\W.cell? ⟨w2.heap.size,1,none⟩=some (.string (Oo u.sort)))):=fun W hW=>by
  have h1:=d7.o.below d7.o.lt hW;have h2:=d8.o.below d8.o.lt hW;exact⟨h1.cell 0,h1.cell 1,h1.cell 2,h1.cell 3,h1.cell 4,h1.cell 5,h2.cell 1⟩
 have O:Hid (∀ W,Up w W->O7 w W kb sb fb gb n S F T vS vF vT v5 1):=fun W hW=>O7.of HH.o hW 1;have e2:Hid (∀ W,Bar gb W3 W->(W.cell? ⟨w.heap.size,0,none⟩=some (.int .i64 t.op)/\W.cell? ⟨w.heap.size,1,none⟩=some (.string (Oo t.sort))/\W.cell? ⟨w.heap.size,2,none⟩=some (.string (Oo t.text))/\W.cell? ⟨w.heap.size,3,none⟩=some (.int .i64 t.a)/\W.cell? ⟨w.heap.size,4,none⟩=some (.int .i64 t.b)/\W.cell? ⟨w.heap.size,5,none⟩=some (.slice qk t.kids.length dk)/\W.cell? ⟨w2.heap.size,1,none⟩=some (.string (Oo u.sort)))):=fun W hW=>by
  have hk:=hW.keep (HH.o.next d.o).km;exact⟨hk.cell _ _ t0,hk.cell _ _ t1,hk.cell _ _ t2,hk.cell _ _ t3,hk.cell _ _ t4,hk.cell _ _ t5,hk.cell _ _ x1⟩
 clear g2 HY e6 HB
 by_cases e3:r=12
 ·subst e3;have I:Hid (Kh (Ov (Oh (Og S))) F (Oq F) T t 12 i=(decide (u.sort=t.sort))):=by unfold Hid Kh;simp only;rw[HU.o.1,HU.o.2];rfl
  rcases Nv u.sort t.sort with⟨A,Z⟩|⟨A,Z⟩
  ·have G:Hid (Kh (Ov (Oh (Og S))) F (Oq F) T t 12 i=true):=by unfold Hid;rw[I.o,Jb A]
   clear A
   go_wp2_with fail
   go_ret
   exact⟨Oz G.o.symm,O.o _ d.o⟩
  have G:Hid (Kh (Ov (Oh (Og S))) F (Oq F) T t 12 i=false):=by unfold Hid;rw[I.o,Jg A]
  clear A
  go_wp2_with fail
  go_ret
  exact⟨Oz G.o.symm,O.o _ d.o⟩
 by_cases e7:r=13
 ·subst e7;have I:Hid (Kh (Ov (Oh (Og S))) F (Oq F) T t 13 i=(decide (u.sort=u0.sort))):=by unfold Hid Kh;simp only;rw[HU.o.1,HU.o.2];rfl
  have g1:=a8.o W3 (Jh _ _)
  rcases Nv u.sort u0.sort with⟨A,Z⟩|⟨A,Z⟩
  case' _=>
   have G:Hid (Kh (Ov (Oh (Og S))) F (Oq F) T t 13 i=true):=by unfold Hid;rw[I.o,Jb A]
  rotate_left
  case' _=>
   have G:Hid (Kh (Ov (Oh (Og S))) F (Oq F) T t 13 i=false):=by unfold Hid;rw[I.o,Jg A]
  rotate_left
  all_goals
   clear A
   go_wp2_with fail
   go_region_held3 (fun W=>W.cell? ⟨w.heap.size,0,none⟩=some (.int .i64 t.op)/\W.cell? ⟨w.heap.size,1,none⟩=some (.string (Oo t.sort))/\W.cell? ⟨w.heap.size,2,none⟩=some (.string (Oo t.text))/\W.cell? ⟨w.heap.size,3,none⟩=some (.int .i64 t.a)/\W.cell? ⟨w.heap.size,4,none⟩=some (.int .i64 t.b)/\W.cell? ⟨w.heap.size,5,none⟩=some (.slice qk t.kids.length dk)/\W.cell? ⟨w2.heap.size,1,none⟩=some (.string (Oo u.sort))) (first
    | assumption|go_keep) (first
    | (go_at_call 122;refine (d4.o W3.drew d.o.drew).mono ?_;rintro e w6 ⟨pb,lb,cb,rfl,E⟩;have J:Hid (Up W3 w6):=⟨E.os,E.tape,E.output,E.size,E.block⟩;have h6:=a8.o w6 J.o;clear E;have d1:=fun W=>(FF u0 (.slice pb lb cb) W).2.1;unfold Ie at d1 ⊢))
   all_goals (go_wp2_with fail;go_ret;exact⟨Oz G.o.symm,O.o _ (d.o.trans (J.o.mono d.o.size))⟩)
 by_cases e8:r=14
 ·subst e8;have U:=k8.o rfl;obtain⟨j,x,hj,hx,o4⟩:∃ j x,Oq F t.text=some j/\F[j]? = some x/\x.args.length=t.kids.length:=by
   unfold Gv at U
   cases hj:Oq F t.text with
   | none=>rw[hj] at U;cases U
   | some j=>
     rw[hj] at U;simp only at U
     cases hx:F[j]? with
     | none=>rw[hx] at U;cases U
     | some x=>
       rw[hx] at U;simp only[J4,Yg] at U;exact⟨j,x,rfl,hx,U.1⟩
  have d6:j<F.length:=by
   rw[Zs] at hx;exact hx.1
  have d5:i<x.args.length:=by omega
  have I:Hid (Kh (Ov (Oh (Og S))) F (Oq F) T t 14 i=decide (u.sort=x.args[i])):=by
   unfold Hid Kh;simp only;rw[HU.o.1,hj,Option.bind_some,hx,Option.bind_some,Jf d5];simp
  have b7:=HH.o.next d.o;have a1:=b7.box.c7.2.1;have a4:=b7.box.c7.2.2.2.2.1;obtain⟨pf,cf,rfl,n1,j9,l1⟩:=b7.fr;unfold maxLen at j9
  rcases l1 with e0|⟨bf,rfl,o7,i6⟩
  ·rw[e0] at d6;cases d6
  obtain⟨-,⟨va,k1,h0⟩,-⟩:=i6 j d6;have ex:F[j]=x:=by
   rw[Jf d6] at hx;exact Option.some.inj hx
  rw[ex] at h0;obtain⟨o2,o8,rfl,n3,k7,l2⟩:=h0;unfold maxLen at k7
  rcases l2 with e0|⟨ba,rfl,o5,h9⟩
  ·rw[e0] at d5;cases d5
  have k2:=h9 i d5;have l4:(Oo t.text).size<=1048576:=by show t.text.toArray.size<=_;simpa using htx
  have n6:∀ m,(Instr.lookup 86 (.map (some fb)) (.string (Oo t.text)) false).run prog (W3.drewN m)=.ok (.int .i64 (j:Nat)) (W3.drewN m):=fun m=>by
   have h:=YM (b7.fm.below (below_drewN (Jh _ _) m) b7.fm.lt) (Oo t.text) l4;rw[Ou,hj] at h;exact h j rfl
  have j0:(0:Int)<=(j:Int):=by omega
  have j1:(j:Int)<(F.length:Int):=by omega
  have j2:(0:Int)<=(i:Int):=by omega
  have j3:(i:Int)<(x.args.length:Int):=by omega
  clear i6 h9 b7 hx ex hj U
  rcases Nv u.sort x.args[i] with⟨A,Z⟩|⟨A,Z⟩
  case' _=>
   have G:Hid (Kh (Ov (Oh (Og S))) F (Oq F) T t 14 i=true):=by unfold Hid;rw[I.o,Jb A]
  rotate_left
  case' _=>
   have G:Hid (Kh (Ov (Oh (Og S))) F (Oq F) T t 14 i=false):=by unfold Hid;rw[I.o,Jg A]
  rotate_left
  all_goals
   clear A;generalize x.args[i]=ya at k2 Z
   go_wp2_with fail
   go_quiet (fail)
   go_wp2_with fail
   go_ret
   exact⟨Oz G.o.symm,O.o _ (below_drewN d.o _)⟩
 by_cases e9:r=15
 ·subst e9;have I:Hid (Kh (Ov (Oh (Og S))) F (Oq F) T t 15 i=(decide (u.sort=t.sort)&&decide (u.op=12))):=by unfold Hid Kh;simp only;rw[HU.o.1,HU.o.2];rfl
  rcases Nv u.sort t.sort with⟨A,Z⟩|⟨A,Z⟩
  ·rcases Em u.op 12 with⟨p1,q1⟩|⟨p1,q1⟩
   ·have G:Hid (Kh (Ov (Oh (Og S))) F (Oq F) T t 15 i=true):=by unfold Hid;rw[I.o,Jb A,Jb p1];rfl
    clear A p1
    go_wp2_with fail
    go_ret
    exact⟨Oz G.o.symm,O.o _ d.o⟩
   have G:Hid (Kh (Ov (Oh (Og S))) F (Oq F) T t 15 i=false):=by unfold Hid;rw[I.o,Jb A,Jg p1];rfl
   clear A p1
   go_wp2_with fail
   go_ret
   exact⟨Oz G.o.symm,O.o _ d.o⟩
  have G:Hid (Kh (Ov (Oh (Og S))) F (Oq F) T t 15 i=false):=by unfold Hid;rw[I.o,Jg A];rfl
  clear A
  go_wp2_with fail
  go_ret
  exact⟨Oz G.o.symm,O.o _ d.o⟩
 by_cases g0:r=16
 ·subst g0;have I:Hid (Kh (Ov (Oh (Og S))) F (Oq F) T t 16 i=(decide (u.sort=t.sort)&&decide (u.op=12)&&decide (u.text≠[48]))):=by unfold Hid Kh;simp only;rw[HU.o.1,HU.o.2];rfl
  rcases Nv u.sort t.sort with⟨A,Z⟩|⟨A,Z⟩
  ·rcases Em u.op 12 with⟨p1,q1⟩|⟨p1,q1⟩
   ·rcases U8 u.text [48] with⟨p2,q2⟩|⟨p2,q2⟩
    ·have G:Hid (Kh (Ov (Oh (Og S))) F (Oq F) T t 16 i=false):=by unfold Hid;rw[I.o,Jb A,Jb p1,Jg (fun h=>h p2)];rfl
     clear A p1 p2
     go_wp2_with fail
     go_ret
     exact⟨Oz G.o.symm,O.o _ d.o⟩
    have G:Hid (Kh (Ov (Oh (Og S))) F (Oq F) T t 16 i=true):=by unfold Hid;rw[I.o,Jb A,Jb p1,Jb p2];rfl
    clear A p1 p2
    go_wp2_with fail
    go_ret
    exact⟨Oz G.o.symm,O.o _ d.o⟩
   have G:Hid (Kh (Ov (Oh (Og S))) F (Oq F) T t 16 i=false):=by unfold Hid;rw[I.o,Jb A,Jg p1];rfl
   clear A p1
   go_wp2_with fail
   go_ret
   exact⟨Oz G.o.symm,O.o _ d.o⟩
  have G:Hid (Kh (Ov (Oh (Og S))) F (Oq F) T t 16 i=false):=by unfold Hid;rw[I.o,Jg A];rfl
  clear A
  go_wp2_with fail
  go_ret
  exact⟨Oz G.o.symm,O.o _ d.o⟩
 by_cases f8:r=17
 ·subst f8;have I:Hid (Kh (Ov (Oh (Og S))) F (Oq F) T t 17 i=(decide ((Ov (Oh (Og S)) u.sort).elem=t.sort))):=by unfold Hid Kh;simp only;rw[HU.o.1,HU.o.2];rfl
  obtain⟨X,hX⟩:=O1 (Ov (Oh (Og S)) u.sort);have d0:=Hd hX;rw[hX] at I;clear hX;have g1:=a8.o W3 (Jh _ _)
  rcases Nv X.elem t.sort with⟨A,Z⟩|⟨A,Z⟩
  case' _=>
   have G:Hid (Kh (Ov (Oh (Og S))) F (Oq F) T t 17 i=true):=by unfold Hid;rw[I.o,Jb A]
  rotate_left
  case' _=>
   have G:Hid (Kh (Ov (Oh (Og S))) F (Oq F) T t 17 i=false):=by unfold Hid;rw[I.o,Jg A]
  rotate_left
  all_goals
   clear A
   go_wp2_with fail
   go_region_held3 (fun W=>W.cell? ⟨w.heap.size,0,none⟩=some (.int .i64 t.op)/\W.cell? ⟨w.heap.size,1,none⟩=some (.string (Oo t.sort))/\W.cell? ⟨w.heap.size,2,none⟩=some (.string (Oo t.text))/\W.cell? ⟨w.heap.size,3,none⟩=some (.int .i64 t.a)/\W.cell? ⟨w.heap.size,4,none⟩=some (.int .i64 t.b)/\W.cell? ⟨w.heap.size,5,none⟩=some (.slice qk t.kids.length dk)/\W.cell? ⟨w2.heap.size,1,none⟩=some (.string (Oo u.sort))) (first
    | assumption|go_keep) (first
    | (go_at_call 98;refine (ask_sort (HH.o.next d.o.drew) (Oo u.sort) i7 hn).mono ?_;rw[Ou,d0.o];rintro e w7 ⟨rfl,M⟩;have b3:=Hd (M.after d.o.drew);obtain⟨n7,g7,-,-,K⟩:=M;have g9:=e2.o w7 ⟨K.os,K.tape,K.output,K.size,K.block⟩;clear K;have V:=fun W=>(DD X W).2.1;have Y:=fun W=>(DD X W).2.2;unfold Gy at V Y ⊢))
   all_goals (go_wp2_with fail;go_ret;exact⟨Oz G.o.symm,b3.o⟩)
 by_cases e5:r=18
 ·subst e5;have I:Hid (Kh (Ov (Oh (Og S))) F (Oq F) T t 18 i=(decide ((Ov (Oh (Og S)) u0.sort).index=u.sort))):=by unfold Hid Kh;simp only;rw[HU.o.1,HU.o.2];rfl
  obtain⟨X,hX⟩:=O1 (Ov (Oh (Og S)) u0.sort);have d0:=Hd hX;rw[hX] at I;clear hX;have g1:=a8.o W3 (Jh _ _)
  rcases Nv X.index u.sort with⟨A,Z⟩|⟨A,Z⟩
  case' _=>
   have G:Hid (Kh (Ov (Oh (Og S))) F (Oq F) T t 18 i=true):=by unfold Hid;rw[I.o,Jb A]
  rotate_left
  case' _=>
   have G:Hid (Kh (Ov (Oh (Og S))) F (Oq F) T t 18 i=false):=by unfold Hid;rw[I.o,Jg A]
  rotate_left
  all_goals
   clear A
   go_wp2_with fail
   go_region_held3 (fun W=>W.cell? ⟨w.heap.size,0,none⟩=some (.int .i64 t.op)/\W.cell? ⟨w.heap.size,1,none⟩=some (.string (Oo t.sort))/\W.cell? ⟨w.heap.size,2,none⟩=some (.string (Oo t.text))/\W.cell? ⟨w.heap.size,3,none⟩=some (.int .i64 t.a)/\W.cell? ⟨w.heap.size,4,none⟩=some (.int .i64 t.b)/\W.cell? ⟨w.heap.size,5,none⟩=some (.slice qk t.kids.length dk)/\W.cell? ⟨w2.heap.size,1,none⟩=some (.string (Oo u.sort))) (first
    | assumption|go_keep) (first
    | (go_at_call 122;refine (d4.o W3.drew d.o.drew).mono ?_;rintro e w6 ⟨pb,lb,cb,rfl,E⟩;have J:Hid (Up W3 w6):=⟨E.os,E.tape,E.output,E.size,E.block⟩;have h6:=a8.o w6 J.o;clear E;have d1:=fun W=>(FF u0 (.slice pb lb cb) W).2.1;unfold Ie at d1 ⊢)
    | (go_at_call 98;refine (ask_sort (HH.o.next (d.o.trans (J.o.mono d.o.size))) (Oo u0.sort) e1 hn).mono ?_;rw[Ou,d0.o];rintro e w7 ⟨rfl,M⟩;have b3:=Hd (M.after (d.o.trans (J.o.mono d.o.size)));obtain⟨n7,g7,-,-,K⟩:=M;have g9:=e2.o w7 ((Bar.of J.o).trans K);clear K;have V:=fun W=>(DD X W).2.1;have Y:=fun W=>(DD X W).2.2;unfold Gy at V Y ⊢))
   all_goals (go_wp2_with fail;go_ret;exact⟨Oz G.o.symm,b3.o⟩)
 by_cases f9:r=19
 ·subst f9;have I:Hid (Kh (Ov (Oh (Og S))) F (Oq F) T t 19 i=(decide ((Ov (Oh (Og S)) u0.sort).elem=u.sort))):=by unfold Hid Kh;simp only;rw[HU.o.1,HU.o.2];rfl
  obtain⟨X,hX⟩:=O1 (Ov (Oh (Og S)) u0.sort);have d0:=Hd hX;rw[hX] at I;clear hX;have g1:=a8.o W3 (Jh _ _)
  rcases Nv X.elem u.sort with⟨A,Z⟩|⟨A,Z⟩
  case' _=>
   have G:Hid (Kh (Ov (Oh (Og S))) F (Oq F) T t 19 i=true):=by unfold Hid;rw[I.o,Jb A]
  rotate_left
  case' _=>
   have G:Hid (Kh (Ov (Oh (Og S))) F (Oq F) T t 19 i=false):=by unfold Hid;rw[I.o,Jg A]
  rotate_left
  all_goals
   clear A
   go_wp2_with fail
   go_region_held3 (fun W=>W.cell? ⟨w.heap.size,0,none⟩=some (.int .i64 t.op)/\W.cell? ⟨w.heap.size,1,none⟩=some (.string (Oo t.sort))/\W.cell? ⟨w.heap.size,2,none⟩=some (.string (Oo t.text))/\W.cell? ⟨w.heap.size,3,none⟩=some (.int .i64 t.a)/\W.cell? ⟨w.heap.size,4,none⟩=some (.int .i64 t.b)/\W.cell? ⟨w.heap.size,5,none⟩=some (.slice qk t.kids.length dk)/\W.cell? ⟨w2.heap.size,1,none⟩=some (.string (Oo u.sort))) (first
    | assumption|go_keep) (first
    | (go_at_call 122;refine (d4.o W3.drew d.o.drew).mono ?_;rintro e w6 ⟨pb,lb,cb,rfl,E⟩;have J:Hid (Up W3 w6):=⟨E.os,E.tape,E.output,E.size,E.block⟩;have h6:=a8.o w6 J.o;clear E;have d1:=fun W=>(FF u0 (.slice pb lb cb) W).2.1;unfold Ie at d1 ⊢)
    | (go_at_call 98;refine (ask_sort (HH.o.next (d.o.trans (J.o.mono d.o.size))) (Oo u0.sort) e1 hn).mono ?_;rw[Ou,d0.o];rintro e w7 ⟨rfl,M⟩;have b3:=Hd (M.after (d.o.trans (J.o.mono d.o.size)));obtain⟨n7,g7,-,-,K⟩:=M;have g9:=e2.o w7 ((Bar.of J.o).trans K);clear K;have V:=fun W=>(DD X W).2.1;have Y:=fun W=>(DD X W).2.2;unfold Gy at V Y ⊢))
   all_goals (go_wp2_with fail;go_ret;exact⟨Oz G.o.symm,b3.o⟩)
 have I:Hid (Kh (Ov (Oh (Og S))) F (Oq F) T t r i=O5 (r:Nat) (Ov (Oh (Og S)) u.sort).kind):=by
  unfold Hid Kh;simp only;rw[HU.o.1,if_neg e3,if_neg e7,if_neg e8,if_neg e9,if_neg g0,if_neg f8,if_neg e5,if_neg f9]
 have o0:((r:Int)==12)=false:=by rw[Jc];omega
 have n8:((r:Int)==13)=false:=by rw[Jc];omega
 have o1:((r:Int)==14)=false:=by rw[Jc];omega
 have o6:((r:Int)==15)=false:=by rw[Jc];omega
 have n9:((r:Int)==16)=false:=by rw[Jc];omega
 have n2:((r:Int)==17)=false:=by rw[Jc];omega
 have o3:((r:Int)==18)=false:=by rw[Jc];omega
 have m8:((r:Int)==19)=false:=by rw[Jc];omega
 obtain⟨B,hB⟩:=O1 (O5 (r:Nat) (Ov (Oh (Og S)) u.sort).kind);rw[hB] at I;have j5:=Hd hB;clear hB e3 e7 e8 e9 g0 f8 e5 f9
 go_wp2_with fail
 refine (Su (HH.o.next d.o) (r:Nat) ⟨by omega,by omega⟩ (Oo u.sort) i7 hn).mono ?_;rw[Ou,j5.o];rintro e w7 ⟨rfl,M⟩;have b3:=Hd (M.after d.o);clear M
 go_wp2_with fail
 go_ret
 exact⟨Oz I.o.symm,b3.o⟩
end Go.Proofs.YtipgjenolpofpaaGreatDoor
