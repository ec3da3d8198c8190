import Derived.Test.YtdmdmgfjpomdbaaGreatDoorP00
import Derived.Test.YtdmdmgfjpomdbaaGreatDoorP25
import Derived.Deep.QuietTactic
import Derived.BigQuiet
import Derived.WalkSmall
set_option maxRecDepth 100000
set_option maxHeartbeats 8000000
namespace Go.Proofs.YtdmdmgfjpomdbaaGreatDoor
open ChangeShapes WideShapes ChangeAt RowKit Proofs.Tryz
theorem EY {w:World}{b:Nat}{f:List UInt8->Option Nat}(h:Hm w b f)(s:ByteArray)(hs:s.size<=1048576):∀ i,f s.data.toList=some i->(Instr.lookup 75 (.map (some b)) (.string s) false).run prog w=.ok (.int .i64 (i:Nat)) w:=by
 intro i G;obtain⟨n,D,hn,d,E⟩:=h;have K:(zeroValue 3).run prog w=.ok (.int .i64 0) w:=rfl;obtain⟨v,M,j,I⟩:=d.lookup Xc underlying75 K (plainElem_int underlying3 (by decide)) (Gl s (by unfold maxLen;omega));obtain⟨c,rfl,hc,J⟩:=plainElem_int_inv underlying3 I;have A:=(E s.data.toList).2 i G;have h2:=congrArg Prod.fst hc;rw[A] at h2;simp at h2;rw[j,h2]
theorem OA {w:World}{kb sb fb gb n:Nat}{S:List (List UInt8)}{F:List Fn}{T:List Tm}{vS vF vT v5:Value}{g:List UInt8->Option SI}(h:BK w kb sb fb gb n S F T vS vF vT v5 g)(t:Tm)(vk:Value)(hk:Kg w vk t.kids)(hr:Xp T.length t=true)(r i:Nat)(hr20:r<=20)(hi:i<t.kids.length)(hT:T.length<=1000000)(hl:t.kids.length<=1000000)(_hF:F.length<=1000)(hz:∀ u∈T,u.sort.length<=1048576)(htx:t.text.length<=1048576)(hn:n<=1000000000)(hcall:r=14->G4 F (Od F) t=true) :
 Calls prog 94 #[.pointer (some ⟨kb,0,none⟩),.int .u8 (r:Nat),Xz t vk,.int .i64 (i:Nat)] w fun e w'=>e=.returned (.bool (Km (Ov (Oc (Oq S))) F (Od F) T t r i))/\O8 w w' kb sb fb gb n S F T vS vF vT v5 1:=by
 obtain⟨qk,dk,rfl,l4,l5,i7⟩:=hk;have HH:=Hd h;have HI:Hid (Kg w (.slice qk t.kids.length dk) t.kids):=⟨qk,dk,rfl,l4,l5,i7⟩;have g2:0<t.kids.length:=by omega
 have HX:=Hd (UY hr i hi);have j8:=Hd (UY hr 0 g2);have HZ:=Hd (Bk hz t.kids[i]);have g8:=Hd (Bk hz t.kids[0]);have j7:=Hd hcall;have l1:(r:Int)<=255:=by omega
 clear h i7 hr hz hcall;have HB:Hid (Up w (w.alloc (.cells #[.int .i64 t.op,.string (Oo t.sort),.string (Oo t.text),.int .i64 t.a,.int .i64 t.b,.slice qk t.kids.length dk] 55))):=Oz _ _;have e3:Hid (Bx (w.alloc (.cells #[.int .i64 t.op,.string (Oo t.sort),.string (Oo t.text),.int .i64 t.a,.int .i64 t.b,.slice qk t.kids.length dk] 55)) w.heap.size [.int .i64 t.op,.string (Oo t.sort),.string (Oo t.text),.int .i64 t.a,.int .i64 t.b,.slice qk t.kids.length dk]):=Oi _ _ _;have HC:Hid (∀ W,Up w W->Calls prog 114 #[.pointer (some ⟨kb,0,none⟩),.agg #[.int .i64 t.op,.string (Oo t.sort),.string (Oo t.text),.int .i64 t.a,.int .i64 t.b,.slice qk t.kids.length dk],.int .i64 (i:Nat)] W fun e w'=>∃ pa la ca,e=.returned (Xz (Ke T t.kids[i]) (.slice pa la ca))/\Up W w'):=fun W hW=>S5 (HH.o.next hW).box.c7.2.2.1 (HH.o.next hW).tr t _ (HI.o.bl hW) i hi HX.o hT hl;have d3:Hid (∀ W,Up w W->Calls prog 114 #[.pointer (some ⟨kb,0,none⟩),.agg #[.int .i64 t.op,.string (Oo t.sort),.string (Oo t.text),.int .i64 t.a,.int .i64 t.b,.slice qk t.kids.length dk],.int .i64 0] W fun e w'=>∃ pa la ca,e=.returned (Xz (Ke T t.kids[0]) (.slice pa la ca))/\Up W w'):=fun W hW=>S5 (HH.o.next hW).box.c7.2.2.1 (HH.o.next hW).tr t _ (HI.o.bl hW) 0 g2 j8.o hT hl;have m8:Hid (Km (Ov (Oc (Oq S))) F (Od F) T t r i=Km (Ov (Oc (Oq S))) F (Od F) T t r i):=rfl;obtain⟨u,hu⟩:=Oa (Ke T t.kids[i]);obtain⟨u0,g3⟩:=Oa (Ke T t.kids[0]);have Z:Hid (Ke T ((t.kids[i]?).getD 0)=u/\Ke T ((t.kids[0]?).getD 0)=u0):=by unfold Hid;rw[UG hi,UG g2];exact⟨hu,g3⟩
 rw[hu] at HZ HC;rw[g3] at g8 d3;clear hu g3;have i1:(Oo u.sort).size<=1048576:=by show u.sort.toArray.size<=_;simpa using HZ.o
 have d8:(Oo u0.sort).size<=1048576:=by show u0.sort.toArray.size<=_;simpa using g8.o
 unfold Xz
 go_in
 go_wp2_with fail
 refine (HC.o _ HB.o).mono ?_;rintro e w2 ⟨pa,la,ca,rfl,hb2⟩;have e1:=HB.up hb2;have HY:=Hd (e3.o.bl e3.o.lt hb2);clear hb2;have d:Hid (Up w (w2.alloc (.cells #[.int .i64 u.op,.string (Oo u.sort),.string (Oo u.text),.int .i64 u.a,.int .i64 u.b,.slice pa la ca] 55))):=e1.o.alloc e1.o.size _;have d4:=Hd (HY.o.alloc (.cells #[.int .i64 u.op,.string (Oo u.sort),.string (Oo u.text),.int .i64 u.a,.int .i64 u.b,.slice pa la ca] 55));have d5:Hid (Bx (w2.alloc (.cells #[.int .i64 u.op,.string (Oo u.sort),.string (Oo u.text),.int .i64 u.a,.int .i64 u.b,.slice pa la ca] 55)) w2.heap.size [.int .i64 u.op,.string (Oo u.sort),.string (Oo u.text),.int .i64 u.a,.int .i64 u.b,.slice pa la ca]):=Oi _ _ _;unfold Xz
 go_upto_block 0 with fail
 obtain⟨W3,h7⟩:=Oa (w2.alloc (.cells #[.int .i64 u.op,.string (Oo u.sort),.string (Oo u.text),.int .i64 u.a,.int .i64 u.b,.slice pa la ca] 55));rw[h7] at d d4 d5 ⊢;clear h7;obtain⟨t0,t1,t2,t3,t4,t5⟩:=d4.o.k6;obtain⟨x0,x1,x2⟩:=d5.o.k3;have b3:Hid (∀ W,Up W3 W->(W.cell? ⟨w.heap.size,0,none⟩=some (.int .i64 t.op)/\W.cell? ⟨w.heap.size,1,none⟩=some (.string (Oo t.sort))/\W.cell? ⟨w.heap.size,2,none⟩=some (.string (Oo t.text))/\W.cell? ⟨w.heap.size,3,none⟩=some (.int .i64 t.a)/\W.cell? ⟨w.heap.size,4,none⟩=some (.int .i64 t.b)/\W.cell? ⟨w.heap.size,5,none⟩=some (.slice qk t.kids.length dk)/\W.cell? ⟨w2.heap.size,1,none⟩=some (.string (Oo u.sort)))):=fun W hW=>by
  have h1:=d4.o.bl d4.o.lt hW;have h2:=d5.o.bl d5.o.lt hW;exact⟨h1.cell 0,h1.cell 1,h1.cell 2,h1.cell 3,h1.cell 4,h1.cell 5,h2.cell 1⟩
 have M:Hid (∀ W,Up w W->O8 w W kb sb fb gb n S F T vS vF vT v5 1):=fun W hW=>O8.of HH.o hW 1;have e4:Hid (∀ W,Bar gb W3 W->(W.cell? ⟨w.heap.size,0,none⟩=some (.int .i64 t.op)/\W.cell? ⟨w.heap.size,1,none⟩=some (.string (Oo t.sort))/\W.cell? ⟨w.heap.size,2,none⟩=some (.string (Oo t.text))/\W.cell? ⟨w.heap.size,3,none⟩=some (.int .i64 t.a)/\W.cell? ⟨w.heap.size,4,none⟩=some (.int .i64 t.b)/\W.cell? ⟨w.heap.size,5,none⟩=some (.slice qk t.kids.length dk)/\W.cell? ⟨w2.heap.size,1,none⟩=some (.string (Oo u.sort)))):=fun W hW=>by
  have hk:=hW.keep (HH.o.next d.o).km;exact⟨hk.cell _ _ t0,hk.cell _ _ t1,hk.cell _ _ t2,hk.cell _ _ t3,hk.cell _ _ t4,hk.cell _ _ t5,hk.cell _ _ x1⟩
 clear e1 HY e3 HB
 by_cases e5:r=12
 ·subst e5;have I:Hid (Km (Ov (Oc (Oq S))) F (Od F) T t 12 i=(decide (u.sort=t.sort))):=by unfold Hid Km;simp only;rw[Z.o.1,Z.o.2];rfl
  rcases Ev u.sort t.sort with⟨A,q0⟩|⟨A,q0⟩
  ·have G:Hid (Km (Ov (Oc (Oq S))) F (Od F) T t 12 i=true):=by unfold Hid;rw[I.o,Ja A]
   clear A
   go_wp2
   go_ret
   exact⟨Oy G.o.symm,M.o _ d.o⟩
  have G:Hid (Km (Ov (Oc (Oq S))) F (Od F) T t 12 i=false):=by unfold Hid;rw[I.o,Jc A]
  clear A
  go_wp2
  go_ret
  exact⟨Oy G.o.symm,M.o _ d.o⟩
 by_cases e6:r=13
 ·subst e6;have I:Hid (Km (Ov (Oc (Oq S))) F (Od F) T t 13 i=(decide (u.sort=u0.sort))):=by unfold Hid Km;simp only;rw[Z.o.1,Z.o.2];rfl
  have g1:=b3.o W3 (Je _ _)
  rcases Ev u.sort u0.sort with⟨A,q0⟩|⟨A,q0⟩
  case' _=>
   have G:Hid (Km (Ov (Oc (Oq S))) F (Od F) T t 13 i=true):=by unfold Hid;rw[I.o,Ja A]
  rotate_left
  case' _=>
   have G:Hid (Km (Ov (Oc (Oq S))) F (Od F) T t 13 i=false):=by unfold Hid;rw[I.o,Jc A]
  rotate_left
  all_goals
   clear A
   go_wp2
   go_region_held3 (fun W=>W.cell? ⟨w.heap.size,0,none⟩=some (.int .i64 t.op)/\W.cell? ⟨w.heap.size,1,none⟩=some (.string (Oo t.sort))/\W.cell? ⟨w.heap.size,2,none⟩=some (.string (Oo t.text))/\W.cell? ⟨w.heap.size,3,none⟩=some (.int .i64 t.a)/\W.cell? ⟨w.heap.size,4,none⟩=some (.int .i64 t.b)/\W.cell? ⟨w.heap.size,5,none⟩=some (.slice qk t.kids.length dk)/\W.cell? ⟨w2.heap.size,1,none⟩=some (.string (Oo u.sort))) (first
    | assumption|go_keep) (first
    | (go_at_call 114;refine (d3.o W3.drew d.o.drew).mono ?_;rintro e w6 ⟨pb,lb,cb,rfl,E⟩;have J:Hid (Up W3 w6):=⟨E.os,E.tape,E.output,E.size,E.block⟩;have h0:=b3.o w6 J.o;clear E;have d1:=fun W=>(AN u0 (.slice pb lb cb) W).2.1;unfold Xz at d1 ⊢))
   all_goals (go_wp2;go_ret;exact⟨Oy G.o.symm,M.o _ (d.o.trans (J.o.mono d.o.size))⟩)
 by_cases e7:r=14
 ·subst e7;have U:=j7.o rfl;obtain⟨j,x,hj,hx,n6⟩:∃ j x,Od F t.text=some j/\F[j]? = some x/\x.args.length=t.kids.length:=by
   unfold G4 at U
   cases hj:Od F t.text with
   | none=>rw[hj] at U;cases U
   | some j=>
     rw[hj] at U;simp only at U
     cases hx:F[j]? with
     | none=>rw[hx] at U;cases U
     | some x=>
       rw[hx] at U;simp only[J3,Yi] at U;exact⟨j,x,rfl,hx,U.1⟩
  have d7:j<F.length:=by
   rw[Zq] at hx;exact hx.1
  have d6:i<x.args.length:=by omega
  have I:Hid (Km (Ov (Oc (Oq S))) F (Od F) T t 14 i=decide (u.sort=x.args[i])):=by
   unfold Hid Km;simp only;rw[Z.o.1,hj,Option.bind_some,hx,Option.bind_some,Jd d6];simp
  have b7:=HH.o.next d.o;have a1:=b7.box.c7.2.1;have a4:=b7.box.c7.2.2.2.2.1;obtain⟨pf,cf,rfl,n4,k9,l0⟩:=b7.fr;unfold maxLen at k9
  rcases l0 with e0|⟨bf,rfl,n3,h9⟩
  ·rw[e0] at d7;cases d7
  obtain⟨-,⟨va,k1,i6⟩,-⟩:=h9 j d7;have ex:F[j]=x:=by
   rw[Jd d7] at hx;exact Option.some.inj hx
  rw[ex] at i6;obtain⟨n8,n0,rfl,n1,k7,k8⟩:=i6;unfold maxLen at k7
  rcases k8 with e0|⟨ba,rfl,n2,h8⟩
  ·rw[e0] at d6;cases d6
  have k2:=h8 i d6;have l2:(Oo t.text).size<=1048576:=by show t.text.toArray.size<=_;simpa using htx
  have n5:∀ m,(Instr.lookup 75 (.map (some fb)) (.string (Oo t.text)) false).run prog (W3.drewN m)=.ok (.int .i64 (j:Nat)) (W3.drewN m):=fun m=>by
   have h:=EY (b7.fm.bl (below_drewN (Je _ _) m) b7.fm.lt) (Oo t.text) l2;rw[Ou,hj] at h;exact h j rfl
  have j0:(0:Int)<=(j:Int):=by omega
  have j1:(j:Int)<(F.length:Int):=by omega
  have j2:(0:Int)<=(i:Int):=by omega
  have j3:(i:Int)<(x.args.length:Int):=by omega
  clear h9 h8 b7 hx ex hj U
  rcases Ev u.sort x.args[i] with⟨A,q0⟩|⟨A,q0⟩
  case' _=>
   have G:Hid (Km (Ov (Oc (Oq S))) F (Od F) T t 14 i=true):=by unfold Hid;rw[I.o,Ja A]
  rotate_left
  case' _=>
   have G:Hid (Km (Ov (Oc (Oq S))) F (Od F) T t 14 i=false):=by unfold Hid;rw[I.o,Jc A]
  rotate_left
  all_goals
   clear A;generalize x.args[i]=ya at k2 q0
   go_wp2
   go_quiet (fail)
   go_wp2
   go_ret
   exact⟨Oy G.o.symm,M.o _ (below_drewN d.o _)⟩
 by_cases e8:r=15
 ·subst e8;have I:Hid (Km (Ov (Oc (Oq S))) F (Od F) T t 15 i=(decide (u.sort=t.sort)&&decide (u.op=12))):=by unfold Hid Km;simp only;rw[Z.o.1,Z.o.2];rfl
  rcases Ev u.sort t.sort with⟨A,q0⟩|⟨A,q0⟩
  ·rcases Kr u.op 12 with⟨p1,q1⟩|⟨p1,q1⟩
   ·have G:Hid (Km (Ov (Oc (Oq S))) F (Od F) T t 15 i=true):=by unfold Hid;rw[I.o,Ja A,Ja p1];rfl
    clear A p1
    go_wp2
    go_ret
    exact⟨Oy G.o.symm,M.o _ d.o⟩
   have G:Hid (Km (Ov (Oc (Oq S))) F (Od F) T t 15 i=false):=by unfold Hid;rw[I.o,Ja A,Jc p1];rfl
   clear A p1
   go_wp2
   go_ret
   exact⟨Oy G.o.symm,M.o _ d.o⟩
  have G:Hid (Km (Ov (Oc (Oq S))) F (Od F) T t 15 i=false):=by unfold Hid;rw[I.o,Jc A];rfl
  clear A
  go_wp2
  go_ret
  exact⟨Oy G.o.symm,M.o _ d.o⟩
 by_cases e9:r=16
 ·subst e9;have I:Hid (Km (Ov (Oc (Oq S))) F (Od F) T t 16 i=(decide (u.sort=t.sort)&&decide (u.op=12)&&decide (u.text≠[48]))):=by unfold Hid Km;simp only;rw[Z.o.1,Z.o.2];rfl
  rcases Ev u.sort t.sort with⟨A,q0⟩|⟨A,q0⟩
  ·rcases Kr u.op 12 with⟨p1,q1⟩|⟨p1,q1⟩
   ·rcases Oj u.text [48] with⟨p2,q2⟩|⟨p2,q2⟩
    ·have G:Hid (Km (Ov (Oc (Oq S))) F (Od F) T t 16 i=false):=by unfold Hid;rw[I.o,Ja A,Ja p1,Jc (fun h=>h p2)];rfl
     clear A p1 p2
     go_wp2
     go_ret
     exact⟨Oy G.o.symm,M.o _ d.o⟩
    have G:Hid (Km (Ov (Oc (Oq S))) F (Od F) T t 16 i=true):=by unfold Hid;rw[I.o,Ja A,Ja p1,Ja p2];rfl
    clear A p1 p2
    go_wp2
    go_ret
    exact⟨Oy G.o.symm,M.o _ d.o⟩
   have G:Hid (Km (Ov (Oc (Oq S))) F (Od F) T t 16 i=false):=by unfold Hid;rw[I.o,Ja A,Jc p1];rfl
   clear A p1
   go_wp2
   go_ret
   exact⟨Oy G.o.symm,M.o _ d.o⟩
  have G:Hid (Km (Ov (Oc (Oq S))) F (Od F) T t 16 i=false):=by unfold Hid;rw[I.o,Jc A];rfl
  clear A
  go_wp2
  go_ret
  exact⟨Oy G.o.symm,M.o _ d.o⟩
 by_cases f8:r=17
 ·subst f8;have I:Hid (Km (Ov (Oc (Oq S))) F (Od F) T t 17 i=(decide ((Ov (Oc (Oq S)) u.sort).elem=t.sort))):=by unfold Hid Km;simp only;rw[Z.o.1,Z.o.2];rfl
  obtain⟨X,hX⟩:=Oa (Ov (Oc (Oq S)) u.sort);have c8:=Hd hX;rw[hX] at I;clear hX;have g1:=b3.o W3 (Je _ _)
  rcases Ev X.elem t.sort with⟨A,q0⟩|⟨A,q0⟩
  case' _=>
   have G:Hid (Km (Ov (Oc (Oq S))) F (Od F) T t 17 i=true):=by unfold Hid;rw[I.o,Ja A]
  rotate_left
  case' _=>
   have G:Hid (Km (Ov (Oc (Oq S))) F (Od F) T t 17 i=false):=by unfold Hid;rw[I.o,Jc A]
  rotate_left
  all_goals
   clear A
   go_wp2
   go_region_held3 (fun W=>W.cell? ⟨w.heap.size,0,none⟩=some (.int .i64 t.op)/\W.cell? ⟨w.heap.size,1,none⟩=some (.string (Oo t.sort))/\W.cell? ⟨w.heap.size,2,none⟩=some (.string (Oo t.text))/\W.cell? ⟨w.heap.size,3,none⟩=some (.int .i64 t.a)/\W.cell? ⟨w.heap.size,4,none⟩=some (.int .i64 t.b)/\W.cell? ⟨w.heap.size,5,none⟩=some (.slice qk t.kids.length dk)/\W.cell? ⟨w2.heap.size,1,none⟩=some (.string (Oo u.sort))) (first
    | assumption|go_keep) (first
    | (go_at_call 84;refine (ask_sort (HH.o.next d.o.drew) (Oo u.sort) i1 hn).mono ?_;rw[Ou,c8.o];rintro e w7 ⟨rfl,O⟩;have a8:=Hd (O.after d.o.drew);obtain⟨n7,g7,-,-,K⟩:=O;have h6:=e4.o w7 ⟨K.os,K.tape,K.output,K.size,K.block⟩;clear K;have V:=fun W=>(MU X W).2.1;have Y:=fun W=>(MU X W).2.2;unfold Gw at V Y ⊢))
   all_goals (go_wp2;go_ret;exact⟨Oy G.o.symm,a8.o⟩)
 by_cases f9:r=18
 ·subst f9;have I:Hid (Km (Ov (Oc (Oq S))) F (Od F) T t 18 i=(decide ((Ov (Oc (Oq S)) u0.sort).index=u.sort))):=by unfold Hid Km;simp only;rw[Z.o.1,Z.o.2];rfl
  obtain⟨X,hX⟩:=Oa (Ov (Oc (Oq S)) u0.sort);have c8:=Hd hX;rw[hX] at I;clear hX;have g1:=b3.o W3 (Je _ _)
  rcases Ev X.index u.sort with⟨A,q0⟩|⟨A,q0⟩
  case' _=>
   have G:Hid (Km (Ov (Oc (Oq S))) F (Od F) T t 18 i=true):=by unfold Hid;rw[I.o,Ja A]
  rotate_left
  case' _=>
   have G:Hid (Km (Ov (Oc (Oq S))) F (Od F) T t 18 i=false):=by unfold Hid;rw[I.o,Jc A]
  rotate_left
  all_goals
   clear A
   go_wp2
   go_region_held3 (fun W=>W.cell? ⟨w.heap.size,0,none⟩=some (.int .i64 t.op)/\W.cell? ⟨w.heap.size,1,none⟩=some (.string (Oo t.sort))/\W.cell? ⟨w.heap.size,2,none⟩=some (.string (Oo t.text))/\W.cell? ⟨w.heap.size,3,none⟩=some (.int .i64 t.a)/\W.cell? ⟨w.heap.size,4,none⟩=some (.int .i64 t.b)/\W.cell? ⟨w.heap.size,5,none⟩=some (.slice qk t.kids.length dk)/\W.cell? ⟨w2.heap.size,1,none⟩=some (.string (Oo u.sort))) (first
    | assumption|go_keep) (first
    | (go_at_call 114;refine (d3.o W3.drew d.o.drew).mono ?_;rintro e w6 ⟨pb,lb,cb,rfl,E⟩;have J:Hid (Up W3 w6):=⟨E.os,E.tape,E.output,E.size,E.block⟩;have h0:=b3.o w6 J.o;clear E;have d1:=fun W=>(AN u0 (.slice pb lb cb) W).2.1;unfold Xz at d1 ⊢)
    | (go_at_call 84;refine (ask_sort (HH.o.next (d.o.trans (J.o.mono d.o.size))) (Oo u0.sort) d8 hn).mono ?_;rw[Ou,c8.o];rintro e w7 ⟨rfl,O⟩;have a8:=Hd (O.after (d.o.trans (J.o.mono d.o.size)));obtain⟨n7,g7,-,-,K⟩:=O;have h6:=e4.o w7 ((Bar.of J.o).trans K);clear K;have V:=fun W=>(MU X W).2.1;have Y:=fun W=>(MU X W).2.2;unfold Gw at V Y ⊢))
   all_goals (go_wp2;go_ret;exact⟨Oy G.o.symm,a8.o⟩)
 by_cases g0:r=19
 ·subst g0;have I:Hid (Km (Ov (Oc (Oq S))) F (Od F) T t 19 i=(decide ((Ov (Oc (Oq S)) u0.sort).elem=u.sort))):=by unfold Hid Km;simp only;rw[Z.o.1,Z.o.2];rfl
  obtain⟨X,hX⟩:=Oa (Ov (Oc (Oq S)) u0.sort);have c8:=Hd hX;rw[hX] at I;clear hX;have g1:=b3.o W3 (Je _ _)
  rcases Ev X.elem u.sort with⟨A,q0⟩|⟨A,q0⟩
  case' _=>
   have G:Hid (Km (Ov (Oc (Oq S))) F (Od F) T t 19 i=true):=by unfold Hid;rw[I.o,Ja A]
  rotate_left
  case' _=>
   have G:Hid (Km (Ov (Oc (Oq S))) F (Od F) T t 19 i=false):=by unfold Hid;rw[I.o,Jc A]
  rotate_left
  all_goals
   clear A
   go_wp2
   go_region_held3 (fun W=>W.cell? ⟨w.heap.size,0,none⟩=some (.int .i64 t.op)/\W.cell? ⟨w.heap.size,1,none⟩=some (.string (Oo t.sort))/\W.cell? ⟨w.heap.size,2,none⟩=some (.string (Oo t.text))/\W.cell? ⟨w.heap.size,3,none⟩=some (.int .i64 t.a)/\W.cell? ⟨w.heap.size,4,none⟩=some (.int .i64 t.b)/\W.cell? ⟨w.heap.size,5,none⟩=some (.slice qk t.kids.length dk)/\W.cell? ⟨w2.heap.size,1,none⟩=some (.string (Oo u.sort))) (first
    | assumption|go_keep) (first
    | (go_at_call 114;refine (d3.o W3.drew d.o.drew).mono ?_;rintro e w6 ⟨pb,lb,cb,rfl,E⟩;have J:Hid (Up W3 w6):=⟨E.os,E.tape,E.output,E.size,E.block⟩;have h0:=b3.o w6 J.o;clear E;have d1:=fun W=>(AN u0 (.slice pb lb cb) W).2.1;unfold Xz at d1 ⊢)
    | (go_at_call 84;refine (ask_sort (HH.o.next (d.o.trans (J.o.mono d.o.size))) (Oo u0.sort) d8 hn).mono ?_;rw[Ou,c8.o];rintro e w7 ⟨rfl,O⟩;have a8:=Hd (O.after (d.o.trans (J.o.mono d.o.size)));obtain⟨n7,g7,-,-,K⟩:=O;have h6:=e4.o w7 ((Bar.of J.o).trans K);clear K;have V:=fun W=>(MU X W).2.1;have Y:=fun W=>(MU X W).2.2;unfold Gw at V Y ⊢))
   all_goals (go_wp2;go_ret;exact⟨Oy G.o.symm,a8.o⟩)
 have I:Hid (Km (Ov (Oc (Oq S))) F (Od F) T t r i=O7 (r:Nat) (Ov (Oc (Oq S)) u.sort).kind):=by
  unfold Hid Km;simp only;rw[Z.o.1,if_neg e5,if_neg e6,if_neg e7,if_neg e8,if_neg e9,if_neg f8,if_neg f9,if_neg g0]
 have o1:((r:Int)==12)=false:=by rw[Jb];omega
 have o2:((r:Int)==13)=false:=by rw[Jb];omega
 have o3:((r:Int)==14)=false:=by rw[Jb];omega
 have o4:((r:Int)==15)=false:=by rw[Jb];omega
 have o5:((r:Int)==16)=false:=by rw[Jb];omega
 have o6:((r:Int)==17)=false:=by rw[Jb];omega
 have o7:((r:Int)==18)=false:=by rw[Jb];omega
 have o8:((r:Int)==19)=false:=by rw[Jb];omega
 obtain⟨B,hB⟩:=Oa (O7 (r:Nat) (Ov (Oc (Oq S)) u.sort).kind);rw[hB] at I;have j6:=Hd hB;clear hB e5 e6 e7 e8 e9 f8 f9 g0
 go_wp2_with fail
 refine (Wy (HH.o.next d.o) (r:Nat) ⟨by omega,by omega⟩ (Oo u.sort) i1 hn).mono ?_;rw[Ou,j6.o];rintro e w7 ⟨rfl,O⟩;have a8:=Hd (O.after d.o);clear O
 go_wp2
 go_ret
 exact⟨Oy I.o.symm,a8.o⟩
end Go.Proofs.YtdmdmgfjpomdbaaGreatDoor
