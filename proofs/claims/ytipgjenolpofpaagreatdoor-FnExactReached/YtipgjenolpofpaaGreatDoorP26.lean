import Derived.Test.YtipgjenolpofpaaGreatDoorP25
set_option maxRecDepth 100000
set_option maxHeartbeats 8000000
namespace Go.Proofs.YtipgjenolpofpaaGreatDoor
open ChangeShapes WideShapes ChangeAt RowKit Proofs.Tryz
theorem ZJ {w:World}{b:Nat}{f:List UInt8->Option Nat}(h:G0 w b f)(s:ByteArray)(hs:s.size<=1048576):∀ i,f s.data.toList=some i->(Instr.lookup 86 (.map (some b)) (.string s) false).run prog w=.ok (.int .i64 (i:Nat)) w:=by
 intro i I;obtain⟨n,D,hn,d,G⟩:=h;have M:(zeroValue 3).run prog w=.ok (.int .i64 0) w:=rfl;obtain⟨v,O,j,J⟩:=d.lookup Il underlying86 M (plainElem_int underlying3 (by decide)) (N0 s (by unfold maxLen;omega));obtain⟨c,rfl,hc,K⟩:=plainElem_int_inv underlying3 J;have E:=(G s.data.toList).2 i I;have A:=congrArg Prod.fst hc;rw[E] at A;simp at A;rw[j,A]
theorem Ty {w:World}{kb sb fb gb n:Nat}{S:List (List UInt8)}{F:List Fn}{T:List Tm}{vS vF vT v5:Value}{g:List UInt8->Option SI}(h:BK w kb sb fb gb n S F T vS vF vT v5 g)(t:Tm)(vk:Value)(hk:U5 w vk t.kids)(hr:Xz T.length t=true)(r i:Nat)(hr20:r<=20)(hi:i<t.kids.length)(hT:T.length<=1000000)(hl:t.kids.length<=1000000)(_hF:F.length<=1000)(hz:∀ u∈T,u.sort.length<=1048576)(htx:t.text.length<=1048576)(hn:n<=1000000000)(hcall:r=14->Gz F (Oq F) t=true) :
 Calls prog 103 #[.pointer (some ⟨kb,0,none⟩),.int .u8 (r:Nat),Ie t vk,.int .i64 (i:Nat)] w fun e w'=>e=.returned (.bool (Kg (Ov (Oh (Og S))) F (Oq F) T t r i))/\O6 w w' kb sb fb gb n S F T vS vF vT v5 1:=by
 obtain⟨qk,dk,rfl,l4,l5,i7⟩:=hk;have HH:=Hd h;have HI:Hid (U5 w (.slice qk t.kids.length dk) t.kids):=⟨qk,dk,rfl,l4,l5,i7⟩;have g2:0<t.kids.length:=by omega
 have HX:=Hd (OB hr i hi);have j8:=Hd (OB hr 0 g2);have HZ:=Hd (F6 hz t.kids[i]);have g8:=Hd (F6 hz t.kids[0]);have j7:=Hd hcall;have l1:(r:Int)<=255:=by omega
 clear h i7 hr hz hcall;have HB:Hid (Up w (w.alloc (.cells #[.int .i64 t.op,.string (Oo t.sort),.string (Oo t.text),.int .i64 t.a,.int .i64 t.b,.slice qk t.kids.length dk] 57))):=Oy _ _;have e3:Hid (Bx (w.alloc (.cells #[.int .i64 t.op,.string (Oo t.sort),.string (Oo t.text),.int .i64 t.a,.int .i64 t.b,.slice qk t.kids.length dk] 57)) w.heap.size [.int .i64 t.op,.string (Oo t.sort),.string (Oo t.text),.int .i64 t.a,.int .i64 t.b,.slice qk t.kids.length dk]):=Oi _ _ _;have HC:Hid (∀ W,Up w W->Calls prog 122 #[.pointer (some ⟨kb,0,none⟩),.agg #[.int .i64 t.op,.string (Oo t.sort),.string (Oo t.text),.int .i64 t.a,.int .i64 t.b,.slice qk t.kids.length dk],.int .i64 (i:Nat)] W fun e w'=>∃ pa la ca,e=.returned (Ie (Ky T t.kids[i]) (.slice pa la ca))/\Up W w'):=fun W hW=>B1 (HH.o.next hW).box.c7.2.2.1 (HH.o.next hW).tr t _ (HI.o.bl hW) i hi HX.o hT hl;have d4:Hid (∀ W,Up w W->Calls prog 122 #[.pointer (some ⟨kb,0,none⟩),.agg #[.int .i64 t.op,.string (Oo t.sort),.string (Oo t.text),.int .i64 t.a,.int .i64 t.b,.slice qk t.kids.length dk],.int .i64 0] W fun e w'=>∃ pa la ca,e=.returned (Ie (Ky T t.kids[0]) (.slice pa la ca))/\Up W w'):=fun W hW=>B1 (HH.o.next hW).box.c7.2.2.1 (HH.o.next hW).tr t _ (HI.o.bl hW) 0 g2 j8.o hT hl;have m8:Hid (Kg (Ov (Oh (Og S))) F (Oq F) T t r i=Kg (Ov (Oh (Og S))) F (Oq F) T t r i):=rfl;obtain⟨u,hu⟩:=O1 (Ky T t.kids[i]);obtain⟨u0,g3⟩:=O1 (Ky T t.kids[0]);have Z:Hid (Ky T ((t.kids[i]?).getD 0)=u/\Ky T ((t.kids[0]?).getD 0)=u0):=by unfold Hid;rw[YY hi,YY g2];exact⟨hu,g3⟩
 rw[hu] at HZ HC;rw[g3] at g8 d4;clear hu g3;have i1:(Oo u.sort).size<=1048576:=by show u.sort.toArray.size<=_;simpa using HZ.o
 have d9:(Oo u0.sort).size<=1048576:=by show u0.sort.toArray.size<=_;simpa using g8.o
 unfold Ie
 go_in
 go_wp2_with fail
 refine (HC.o _ HB.o).mono ?_;rintro e w2 ⟨pa,la,ca,rfl,g1⟩;have e2:=HB.up g1;have HY:=Hd (e3.o.bl e3.o.lt g1);clear g1;have d:Hid (Up w (w2.alloc (.cells #[.int .i64 u.op,.string (Oo u.sort),.string (Oo u.text),.int .i64 u.a,.int .i64 u.b,.slice pa la ca] 57))):=e2.o.alloc e2.o.size _;have d5:=Hd (HY.o.alloc (.cells #[.int .i64 u.op,.string (Oo u.sort),.string (Oo u.text),.int .i64 u.a,.int .i64 u.b,.slice pa la ca] 57));have d6:Hid (Bx (w2.alloc (.cells #[.int .i64 u.op,.string (Oo u.sort),.string (Oo u.text),.int .i64 u.a,.int .i64 u.b,.slice pa la ca] 57)) w2.heap.size [.int .i64 u.op,.string (Oo u.sort),.string (Oo u.text),.int .i64 u.a,.int .i64 u.b,.slice pa la ca]):=Oi _ _ _;unfold Ie
 go_upto_block 0 with fail
 obtain⟨W3,h7⟩:=O1 (w2.alloc (.cells #[.int .i64 u.op,.string (Oo u.sort),.string (Oo u.text),.int .i64 u.a,.int .i64 u.b,.slice pa la ca] 57));rw[h7] at d d5 d6 ⊢;clear h7;obtain⟨t0,t1,t2,t3,t4,t5⟩:=d5.o.k6;obtain⟨x0,x1,x2⟩:=d6.o.k3;have b3:Hid (∀ W,Up W3 W->(W.cell? ⟨w.heap.size,0,none⟩=some (.int .i64 t.op)/\W.cell? ⟨w.heap.size,1,none⟩=some (.string (Oo t.sort))/\W.cell? ⟨w.heap.size,2,none⟩=some (.string (Oo t.text))/\W.cell? ⟨w.heap.size,3,none⟩=some (.int .i64 t.a)/\W.cell? ⟨w.heap.size,4,none⟩=some (.int .i64 t.b)/\W.cell? ⟨w.heap.size,5,none⟩=some (.slice qk t.kids.length dk)/\W.cell? ⟨w2.heap.size,1,none⟩=some (.string (Oo u.sort)))):=fun W hW=>by
  have h1:=d5.o.bl d5.o.lt hW;have h2:=d6.o.bl d6.o.lt hW;exact⟨h1.cell 0,h1.cell 1,h1.cell 2,h1.cell 3,h1.cell 4,h1.cell 5,h2.cell 1⟩
 have M:Hid (∀ W,Up w W->O6 w W kb sb fb gb n S F T vS vF vT v5 1):=fun W hW=>O6.of HH.o hW 1;have e4:Hid (∀ W,Bar gb W3 W->(W.cell? ⟨w.heap.size,0,none⟩=some (.int .i64 t.op)/\W.cell? ⟨w.heap.size,1,none⟩=some (.string (Oo t.sort))/\W.cell? ⟨w.heap.size,2,none⟩=some (.string (Oo t.text))/\W.cell? ⟨w.heap.size,3,none⟩=some (.int .i64 t.a)/\W.cell? ⟨w.heap.size,4,none⟩=some (.int .i64 t.b)/\W.cell? ⟨w.heap.size,5,none⟩=some (.slice qk t.kids.length dk)/\W.cell? ⟨w2.heap.size,1,none⟩=some (.string (Oo u.sort)))):=fun W hW=>by
  have hk:=hW.keep (HH.o.next d.o).km;exact⟨hk.cell _ _ t0,hk.cell _ _ t1,hk.cell _ _ t2,hk.cell _ _ t3,hk.cell _ _ t4,hk.cell _ _ t5,hk.cell _ _ x1⟩
 clear e2 HY e3 HB
 by_cases e5:r=12
 ·subst e5;have I:Hid (Kg (Ov (Oh (Og S))) F (Oq F) T t 12 i=(decide (u.sort=t.sort))):=by unfold Hid Kg;simp only;rw[Z.o.1,Z.o.2];rfl
  rcases Nk u.sort t.sort with⟨A,q0⟩|⟨A,q0⟩
  ·have G:Hid (Kg (Ov (Oh (Og S))) F (Oq F) T t 12 i=true):=by unfold Hid;rw[I.o,Jb A]
   clear A
   go_wp2
   go_ret
   exact⟨Oz G.o.symm,M.o _ d.o⟩
  have G:Hid (Kg (Ov (Oh (Og S))) F (Oq F) T t 12 i=false):=by unfold Hid;rw[I.o,Jg A]
  clear A
  go_wp2
  go_ret
  exact⟨Oz G.o.symm,M.o _ d.o⟩
 by_cases e6:r=13
 ·subst e6;have I:Hid (Kg (Ov (Oh (Og S))) F (Oq F) T t 13 i=(decide (u.sort=u0.sort))):=by unfold Hid Kg;simp only;rw[Z.o.1,Z.o.2];rfl
  have g0:=b3.o W3 (Jh _ _)
  rcases Nk u.sort u0.sort with⟨A,q0⟩|⟨A,q0⟩
  case' _=>
   have G:Hid (Kg (Ov (Oh (Og S))) F (Oq F) T t 13 i=true):=by unfold Hid;rw[I.o,Jb A]
  rotate_left
  case' _=>
   have G:Hid (Kg (Ov (Oh (Og S))) F (Oq F) T t 13 i=false):=by unfold Hid;rw[I.o,Jg A]
  rotate_left
  all_goals
   clear A
   go_wp2
   go_region_held3 (fun W=>W.cell? ⟨w.heap.size,0,none⟩=some (.int .i64 t.op)/\W.cell? ⟨w.heap.size,1,none⟩=some (.string (Oo t.sort))/\W.cell? ⟨w.heap.size,2,none⟩=some (.string (Oo t.text))/\W.cell? ⟨w.heap.size,3,none⟩=some (.int .i64 t.a)/\W.cell? ⟨w.heap.size,4,none⟩=some (.int .i64 t.b)/\W.cell? ⟨w.heap.size,5,none⟩=some (.slice qk t.kids.length dk)/\W.cell? ⟨w2.heap.size,1,none⟩=some (.string (Oo u.sort))) (first
    | assumption|go_keep) (first
    | (go_at_call 122;refine (d4.o W3.drew d.o.drew).mono ?_;rintro e w6 ⟨pb,lb,cb,rfl,E⟩;have J:Hid (Up W3 w6):=⟨E.os,E.tape,E.output,E.size,E.block⟩;have h0:=b3.o w6 J.o;clear E;have d1:=fun W=>(FM u0 (.slice pb lb cb) W).2.1;unfold Ie at d1 ⊢))
   all_goals (go_wp2;go_ret;exact⟨Oz G.o.symm,M.o _ (d.o.trans (J.o.mono d.o.size))⟩)
 by_cases e7:r=14
 ·subst e7;have U:=j7.o rfl;obtain⟨j,x,hj,hx,n8⟩:∃ j x,Oq F t.text=some j/\F[j]? = some x/\x.args.length=t.kids.length:=by
   unfold Gz at U
   cases hj:Oq F t.text with
   | none=>rw[hj] at U;cases U
   | some j=>
     rw[hj] at U;simp only at U
     cases hx:F[j]? with
     | none=>rw[hx] at U;cases U
     | some x=>
       rw[hx] at U;simp only[J3,Yg] at U;exact⟨j,x,rfl,hx,U.1⟩
  have d8:j<F.length:=by
   rw[Zr] at hx;exact hx.1
  have d7:i<x.args.length:=by omega
  have I:Hid (Kg (Ov (Oh (Og S))) F (Oq F) T t 14 i=decide (u.sort=x.args[i])):=by
   unfold Hid Kg;simp only;rw[Z.o.1,hj,Option.bind_some,hx,Option.bind_some,Jf d7];simp
  have b7:=HH.o.next d.o;have a1:=b7.box.c7.2.1;have a4:=b7.box.c7.2.2.2.2.1;obtain⟨pf,cf,rfl,n5,k9,l0⟩:=b7.fr;unfold maxLen at k9
  rcases l0 with e0|⟨bf,rfl,n4,h9⟩
  ·rw[e0] at d8;cases d8
  obtain⟨-,⟨va,k1,i6⟩,-⟩:=h9 j d8;have ex:F[j]=x:=by
   rw[Jf d8] at hx;exact Option.some.inj hx
  rw[ex] at i6;obtain⟨n9,n0,rfl,n2,k7,k8⟩:=i6;unfold maxLen at k7
  rcases k8 with e0|⟨ba,rfl,n3,h8⟩
  ·rw[e0] at d7;cases d7
  have k2:=h8 i d7;have l2:(Oo t.text).size<=1048576:=by show t.text.toArray.size<=_;simpa using htx
  have n6:∀ m,(Instr.lookup 86 (.map (some fb)) (.string (Oo t.text)) false).run prog (W3.drewN m)=.ok (.int .i64 (j:Nat)) (W3.drewN m):=fun m=>by
   have h:=ZJ (b7.fm.bl (below_drewN (Jh _ _) m) b7.fm.lt) (Oo t.text) l2;rw[Ou,hj] at h;exact h j rfl
  have j0:(0:Int)<=(j:Int):=by omega
  have j1:(j:Int)<(F.length:Int):=by omega
  have j2:(0:Int)<=(i:Int):=by omega
  have j3:(i:Int)<(x.args.length:Int):=by omega
  clear h9 h8 b7 hx ex hj U
  rcases Nk u.sort x.args[i] with⟨A,q0⟩|⟨A,q0⟩
  case' _=>
   have G:Hid (Kg (Ov (Oh (Og S))) F (Oq F) T t 14 i=true):=by unfold Hid;rw[I.o,Jb A]
  rotate_left
  case' _=>
   have G:Hid (Kg (Ov (Oh (Og S))) F (Oq F) T t 14 i=false):=by unfold Hid;rw[I.o,Jg A]
  rotate_left
  all_goals
   clear A;generalize x.args[i]=ya at k2 q0
   go_wp2
   go_quiet (fail)
   go_wp2
   go_ret
   exact⟨Oz G.o.symm,M.o _ (below_drewN d.o _)⟩
 by_cases e8:r=15
 ·subst e8;have I:Hid (Kg (Ov (Oh (Og S))) F (Oq F) T t 15 i=(decide (u.sort=t.sort)&&decide (u.op=12))):=by unfold Hid Kg;simp only;rw[Z.o.1,Z.o.2];rfl
  rcases Nk u.sort t.sort with⟨A,q0⟩|⟨A,q0⟩
  ·rcases Em u.op 12 with⟨p1,q1⟩|⟨p1,q1⟩
   ·have G:Hid (Kg (Ov (Oh (Og S))) F (Oq F) T t 15 i=true):=by unfold Hid;rw[I.o,Jb A,Jb p1];rfl
    clear A p1
    go_wp2
    go_ret
    exact⟨Oz G.o.symm,M.o _ d.o⟩
   have G:Hid (Kg (Ov (Oh (Og S))) F (Oq F) T t 15 i=false):=by unfold Hid;rw[I.o,Jb A,Jg p1];rfl
   clear A p1
   go_wp2
   go_ret
   exact⟨Oz G.o.symm,M.o _ d.o⟩
  have G:Hid (Kg (Ov (Oh (Og S))) F (Oq F) T t 15 i=false):=by unfold Hid;rw[I.o,Jg A];rfl
  clear A
  go_wp2
  go_ret
  exact⟨Oz G.o.symm,M.o _ d.o⟩
 by_cases e9:r=16
 ·subst e9;have I:Hid (Kg (Ov (Oh (Og S))) F (Oq F) T t 16 i=(decide (u.sort=t.sort)&&decide (u.op=12)&&decide (u.text≠[48]))):=by unfold Hid Kg;simp only;rw[Z.o.1,Z.o.2];rfl
  rcases Nk u.sort t.sort with⟨A,q0⟩|⟨A,q0⟩
  ·rcases Em u.op 12 with⟨p1,q1⟩|⟨p1,q1⟩
   ·rcases U8 u.text [48] with⟨p2,q2⟩|⟨p2,q2⟩
    ·have G:Hid (Kg (Ov (Oh (Og S))) F (Oq F) T t 16 i=false):=by unfold Hid;rw[I.o,Jb A,Jb p1,Jg (fun h=>h p2)];rfl
     clear A p1 p2
     go_wp2
     go_ret
     exact⟨Oz G.o.symm,M.o _ d.o⟩
    have G:Hid (Kg (Ov (Oh (Og S))) F (Oq F) T t 16 i=true):=by unfold Hid;rw[I.o,Jb A,Jb p1,Jb p2];rfl
    clear A p1 p2
    go_wp2
    go_ret
    exact⟨Oz G.o.symm,M.o _ d.o⟩
   have G:Hid (Kg (Ov (Oh (Og S))) F (Oq F) T t 16 i=false):=by unfold Hid;rw[I.o,Jb A,Jg p1];rfl
   clear A p1
   go_wp2
   go_ret
   exact⟨Oz G.o.symm,M.o _ d.o⟩
  have G:Hid (Kg (Ov (Oh (Og S))) F (Oq F) T t 16 i=false):=by unfold Hid;rw[I.o,Jg A];rfl
  clear A
  go_wp2
  go_ret
  exact⟨Oz G.o.symm,M.o _ d.o⟩
 by_cases f5:r=17
 ·subst f5;have I:Hid (Kg (Ov (Oh (Og S))) F (Oq F) T t 17 i=(decide ((Ov (Oh (Og S)) u.sort).elem=t.sort))):=by unfold Hid Kg;simp only;rw[Z.o.1,Z.o.2];rfl
  obtain⟨X,hX⟩:=O1 (Ov (Oh (Og S)) u.sort);have c8:=Hd hX;rw[hX] at I;clear hX;have g0:=b3.o W3 (Jh _ _)
  rcases Nk X.elem t.sort with⟨A,q0⟩|⟨A,q0⟩
  case' _=>
   have G:Hid (Kg (Ov (Oh (Og S))) F (Oq F) T t 17 i=true):=by unfold Hid;rw[I.o,Jb A]
  rotate_left
  case' _=>
   have G:Hid (Kg (Ov (Oh (Og S))) F (Oq F) T t 17 i=false):=by unfold Hid;rw[I.o,Jg A]
  rotate_left
  all_goals
   clear A
   go_wp2
   go_region_held3 (fun W=>W.cell? ⟨w.heap.size,0,none⟩=some (.int .i64 t.op)/\W.cell? ⟨w.heap.size,1,none⟩=some (.string (Oo t.sort))/\W.cell? ⟨w.heap.size,2,none⟩=some (.string (Oo t.text))/\W.cell? ⟨w.heap.size,3,none⟩=some (.int .i64 t.a)/\W.cell? ⟨w.heap.size,4,none⟩=some (.int .i64 t.b)/\W.cell? ⟨w.heap.size,5,none⟩=some (.slice qk t.kids.length dk)/\W.cell? ⟨w2.heap.size,1,none⟩=some (.string (Oo u.sort))) (first
    | assumption|go_keep) (first
    | (go_at_call 98;refine (ask_sort (HH.o.next d.o.drew) (Oo u.sort) i1 hn).mono ?_;rw[Ou,c8.o];rintro e w7 ⟨rfl,O⟩;have a8:=Hd (O.after d.o.drew);obtain⟨n7,g7,-,-,K⟩:=O;have h6:=e4.o w7 ⟨K.os,K.tape,K.output,K.size,K.block⟩;clear K;have V:=fun W=>(DB X W).2.1;have Y:=fun W=>(DB X W).2.2;unfold N9 at V Y ⊢))
   all_goals (go_wp2;go_ret;exact⟨Oz G.o.symm,a8.o⟩)
 by_cases f8:r=18
 ·subst f8;have I:Hid (Kg (Ov (Oh (Og S))) F (Oq F) T t 18 i=(decide ((Ov (Oh (Og S)) u0.sort).index=u.sort))):=by unfold Hid Kg;simp only;rw[Z.o.1,Z.o.2];rfl
  obtain⟨X,hX⟩:=O1 (Ov (Oh (Og S)) u0.sort);have c8:=Hd hX;rw[hX] at I;clear hX;have g0:=b3.o W3 (Jh _ _)
  rcases Nk X.index u.sort with⟨A,q0⟩|⟨A,q0⟩
  case' _=>
   have G:Hid (Kg (Ov (Oh (Og S))) F (Oq F) T t 18 i=true):=by unfold Hid;rw[I.o,Jb A]
  rotate_left
  case' _=>
   have G:Hid (Kg (Ov (Oh (Og S))) F (Oq F) T t 18 i=false):=by unfold Hid;rw[I.o,Jg A]
  rotate_left
  all_goals
   clear A
   go_wp2
   go_region_held3 (fun W=>W.cell? ⟨w.heap.size,0,none⟩=some (.int .i64 t.op)/\W.cell? ⟨w.heap.size,1,none⟩=some (.string (Oo t.sort))/\W.cell? ⟨w.heap.size,2,none⟩=some (.string (Oo t.text))/\W.cell? ⟨w.heap.size,3,none⟩=some (.int .i64 t.a)/\W.cell? ⟨w.heap.size,4,none⟩=some (.int .i64 t.b)/\W.cell? ⟨w.heap.size,5,none⟩=some (.slice qk t.kids.length dk)/\W.cell? ⟨w2.heap.size,1,none⟩=some (.string (Oo u.sort))) (first
    | assumption|go_keep) (first
    | (go_at_call 122;refine (d4.o W3.drew d.o.drew).mono ?_;rintro e w6 ⟨pb,lb,cb,rfl,E⟩;have J:Hid (Up W3 w6):=⟨E.os,E.tape,E.output,E.size,E.block⟩;have h0:=b3.o w6 J.o;clear E;have d1:=fun W=>(FM u0 (.slice pb lb cb) W).2.1;unfold Ie at d1 ⊢)
    | (go_at_call 98;refine (ask_sort (HH.o.next (d.o.trans (J.o.mono d.o.size))) (Oo u0.sort) d9 hn).mono ?_;rw[Ou,c8.o];rintro e w7 ⟨rfl,O⟩;have a8:=Hd (O.after (d.o.trans (J.o.mono d.o.size)));obtain⟨n7,g7,-,-,K⟩:=O;have h6:=e4.o w7 ((Bar.of J.o).trans K);clear K;have V:=fun W=>(DB X W).2.1;have Y:=fun W=>(DB X W).2.2;unfold N9 at V Y ⊢))
   all_goals (go_wp2;go_ret;exact⟨Oz G.o.symm,a8.o⟩)
 by_cases f9:r=19
 ·subst f9;have I:Hid (Kg (Ov (Oh (Og S))) F (Oq F) T t 19 i=(decide ((Ov (Oh (Og S)) u0.sort).elem=u.sort))):=by unfold Hid Kg;simp only;rw[Z.o.1,Z.o.2];rfl
  obtain⟨X,hX⟩:=O1 (Ov (Oh (Og S)) u0.sort);have c8:=Hd hX;rw[hX] at I;clear hX;have g0:=b3.o W3 (Jh _ _)
  rcases Nk X.elem u.sort with⟨A,q0⟩|⟨A,q0⟩
  case' _=>
   have G:Hid (Kg (Ov (Oh (Og S))) F (Oq F) T t 19 i=true):=by unfold Hid;rw[I.o,Jb A]
  rotate_left
  case' _=>
   have G:Hid (Kg (Ov (Oh (Og S))) F (Oq F) T t 19 i=false):=by unfold Hid;rw[I.o,Jg A]
  rotate_left
  all_goals
   clear A
   go_wp2
   go_region_held3 (fun W=>W.cell? ⟨w.heap.size,0,none⟩=some (.int .i64 t.op)/\W.cell? ⟨w.heap.size,1,none⟩=some (.string (Oo t.sort))/\W.cell? ⟨w.heap.size,2,none⟩=some (.string (Oo t.text))/\W.cell? ⟨w.heap.size,3,none⟩=some (.int .i64 t.a)/\W.cell? ⟨w.heap.size,4,none⟩=some (.int .i64 t.b)/\W.cell? ⟨w.heap.size,5,none⟩=some (.slice qk t.kids.length dk)/\W.cell? ⟨w2.heap.size,1,none⟩=some (.string (Oo u.sort))) (first
    | assumption|go_keep) (first
    | (go_at_call 122;refine (d4.o W3.drew d.o.drew).mono ?_;rintro e w6 ⟨pb,lb,cb,rfl,E⟩;have J:Hid (Up W3 w6):=⟨E.os,E.tape,E.output,E.size,E.block⟩;have h0:=b3.o w6 J.o;clear E;have d1:=fun W=>(FM u0 (.slice pb lb cb) W).2.1;unfold Ie at d1 ⊢)
    | (go_at_call 98;refine (ask_sort (HH.o.next (d.o.trans (J.o.mono d.o.size))) (Oo u0.sort) d9 hn).mono ?_;rw[Ou,c8.o];rintro e w7 ⟨rfl,O⟩;have a8:=Hd (O.after (d.o.trans (J.o.mono d.o.size)));obtain⟨n7,g7,-,-,K⟩:=O;have h6:=e4.o w7 ((Bar.of J.o).trans K);clear K;have V:=fun W=>(DB X W).2.1;have Y:=fun W=>(DB X W).2.2;unfold N9 at V Y ⊢))
   all_goals (go_wp2;go_ret;exact⟨Oz G.o.symm,a8.o⟩)
 have I:Hid (Kg (Ov (Oh (Og S))) F (Oq F) T t r i=O5 (r:Nat) (Ov (Oh (Og S)) u.sort).kind):=by
  unfold Hid Kg;simp only;rw[Z.o.1,if_neg e5,if_neg e6,if_neg e7,if_neg e8,if_neg e9,if_neg f5,if_neg f8,if_neg f9]
 have o2:((r:Int)==12)=false:=by rw[Jc];omega
 have o3:((r:Int)==13)=false:=by rw[Jc];omega
 have o4:((r:Int)==14)=false:=by rw[Jc];omega
 have o5:((r:Int)==15)=false:=by rw[Jc];omega
 have o6:((r:Int)==16)=false:=by rw[Jc];omega
 have o7:((r:Int)==17)=false:=by rw[Jc];omega
 have o8:((r:Int)==18)=false:=by rw[Jc];omega
 have o9:((r:Int)==19)=false:=by rw[Jc];omega
 obtain⟨B,hB⟩:=O1 (O5 (r:Nat) (Ov (Oh (Og S)) u.sort).kind);rw[hB] at I;have j6:=Hd hB;clear hB e5 e6 e7 e8 e9 f5 f8 f9
 go_wp2_with fail
 refine (A4 (HH.o.next d.o) (r:Nat) ⟨by omega,by omega⟩ (Oo u.sort) i1 hn).mono ?_;rw[Ou,j6.o];rintro e w7 ⟨rfl,O⟩;have a8:=Hd (O.after d.o);clear O
 go_wp2
 go_ret
 exact⟨Oz I.o.symm,a8.o⟩
end Go.Proofs.YtipgjenolpofpaaGreatDoor
