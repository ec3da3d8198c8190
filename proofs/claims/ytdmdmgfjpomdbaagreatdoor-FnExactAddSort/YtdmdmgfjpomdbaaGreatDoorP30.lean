import Derived.Test.YtdmdmgfjpomdbaaGreatDoorP00
import Derived.Test.YtdmdmgfjpomdbaaGreatDoorP26
import Derived.Test.YtdmdmgfjpomdbaaGreatDoorP29
set_option maxRecDepth 100000
set_option maxHeartbeats 16000000
namespace Go.Proofs.YtdmdmgfjpomdbaaGreatDoor
open ChangeShapes WideShapes ChangeAt RowKit Proofs.Tryz
theorem O8.comp {w w2 w':World}{kb sb fb gb n n2:Nat}{S:List (List UInt8)}{F:List Fn}{T:List Tm}{vS vF vT v5:Value}{m m2:Nat}(h2:n2<=n+m2)(hb:Bar gb w w2)(ha:O8 w2 w' kb sb fb gb n2 S F T vS vF vT v5 m):O8 w w' kb sb fb gb n S F T vS vF vT v5 (m2+m):=by
 obtain⟨n',d,h,h3,h4⟩:=ha;exact⟨n',d,by omega,h3,hb.trans h4⟩
theorem Bf {x:Int}(h1 : -9223372036854775808<=x)(h2:x<=9223372036854775807):IntKind.i64.wrap x=x:=by
 unfold IntKind.wrap;simp only[IntKind.bits,IntKind.signed];simp;omega
theorem Wk {l:List UInt8}:(Ek Gs l=l.length)↔l.all Gs=true:=by
 induction l with
 | nil=>simp[Ek]
 | cons c r ih=>
   have:=NC Gs r;unfold Ek
   cases h:Gs c
   ·simp[h]
   simp[h,ih]
theorem Sw {w:World}{kb sb fb gb n:Nat}{S:List (List UInt8)}{F:List Fn}{T:List Tm}{vS vF vT v5:Value}{g:List UInt8->Option SI}(h:BK w kb sb fb gb n S F T vS vF vT v5 g)(t:Tm)(vk:Value)(hk:Kg w vk t.kids)(hr:Xp T.length t=true)(num:Tm->Bool)(hT:T.length<=1000000)(hl:t.kids.length<=1000000)(hF:F.length<=1000)(hz:∀ u∈T,u.sort.length<=1048576)(hts:t.sort.length<=1048576)(htx:t.text.length<=1048576)(hn:n<=900000000)(hop:Ko t.op<=t.kids.length)
 (hnum:t.op=12->∀ W,Bar gb w W->Calls prog 110 #[.string (Oo t.sort),.string (Oo t.text)] W fun e w'=>e=.returned (.bool (num t))/\Up W w') :
 Calls prog 93 #[.pointer (some ⟨kb,0,none⟩),Xz t vk] w fun e w'=>e=.returned (.bool (asked (Ov (Oc (Oq S))) num F (Od F) T t))/\O8 w w' kb sb fb gb n S F T vS vF vT v5 3:=by
 obtain⟨qk,dk,rfl,k1,k7,i8⟩:=hk;have HH:=Hd h;have HI:Hid (Kg w (.slice qk t.kids.length dk) t.kids):=⟨qk,dk,rfl,k1,k7,i8⟩;have HR:=Hd hr;have HZ:=Hd hz;have h8:=Hd hnum;have d3:=Hd hop;clear h i8 hr hz hnum hop;have k0:(Oo t.sort).size<=1048576:=by show t.sort.toArray.size<=_;simpa using hts
 have m6:(Oo t.text).size<=1048576:=by show t.text.toArray.size<=_;simpa using htx
 have HB:Hid (Up w (w.alloc (.cells #[.int .i64 t.op,.string (Oo t.sort),.string (Oo t.text),.int .i64 t.a,.int .i64 t.b,.slice qk t.kids.length dk] 55))):=Oz _ _;have h6:Hid (Bx (w.alloc (.cells #[.int .i64 t.op,.string (Oo t.sort),.string (Oo t.text),.int .i64 t.a,.int .i64 t.b,.slice qk t.kids.length dk] 55)) w.heap.size [.int .i64 t.op,.string (Oo t.sort),.string (Oo t.text),.int .i64 t.a,.int .i64 t.b,.slice qk t.kids.length dk]):=Oi _ _ _;unfold Xz
 go_in
 go_wp2_with fail
 refine (ask_sort (HH.o.next HB.o) (Oo t.sort) k0 (by omega)).mono ?_;rw[Ou];obtain⟨X,hX⟩:=Oa (Ov (Oc (Oq S)) t.sort);have d4:=Hd hX;have m8:X.width<=64:=by rw[<-hX];exact En _ _
 rw[hX];clear hX;rintro e w2 ⟨rfl,j7⟩;obtain⟨n2,g2,hn2,c8,b3⟩:=j7;have b7:=b3.keep (HH.o.next HB.o).km;have O:=Hd c8;have h1:Hid (Bar gb w w2):=(Bar.of HB.o).trans b3;have j6:Hid (Kg w2 (.slice qk t.kids.length dk) t.kids):=(HI.o.bl HB.o).keep b7;have c6:=h6.o;have J:Hid (∀ W,Bar gb w2 W->(W.cell? ⟨w.heap.size,0,none⟩=some (.int .i64 t.op)/\W.cell? ⟨w.heap.size,1,none⟩=some (.string (Oo t.sort))/\W.cell? ⟨w.heap.size,2,none⟩=some (.string (Oo t.text))/\W.cell? ⟨w.heap.size,3,none⟩=some (.int .i64 t.a)/\W.cell? ⟨w.heap.size,4,none⟩=some (.int .i64 t.b)/\W.cell? ⟨w.heap.size,5,none⟩=some (.slice qk t.kids.length dk))):=fun W hW=>by
  have d1:=hW.keep c8.km;exact⟨d1.cell _ _ (b7.cell _ _ (c6.cell 0)),d1.cell _ _ (b7.cell _ _ (c6.cell 1)),d1.cell _ _ (b7.cell _ _ (c6.cell 2)),d1.cell _ _ (b7.cell _ _ (c6.cell 3)),d1.cell _ _ (b7.cell _ _ (c6.cell 4)),d1.cell _ _ (b7.cell _ _ (c6.cell 5))⟩
 have E:Hid (∀ W m,m<=2->O8 w2 W kb sb fb gb n2 S F T vS vF vT v5 m->O8 w W kb sb fb gb n S F T vS vF vT v5 3):=fun W m hm ha=>(O8.comp hn2 ((Bar.of HB.o).trans b3) ha).more (by omega);have U:Hid (∀ W,Up w2 W->O8 w W kb sb fb gb n S F T vS vF vT v5 3):=fun W hW=>E.o W 0 (by omega) (O8.of c8 hW 0);have l1:n2<=950000000:=by omega
 have d0:=J.o w2 (Bar.refl _ _);have t0:=d0.1;have t1:=d0.2.1;have t2:=d0.2.2.1;have t3:=d0.2.2.2.1;have t4:=d0.2.2.2.2.1;have t5:=d0.2.2.2.2.2;clear b7 c8 b3 c6 h6 HB HI HH hn2;have hg:=(MU X w2).1;unfold Gw at hg ⊢;have HW:Hid (∀ i (hi:i<t.kids.length) n W gg,BK W kb sb fb gb n S F T vS vF vT v5 gg->n<=1000000000->Keep w2 W->Calls prog 113 #[.pointer (some ⟨kb,0,none⟩),.agg #[.int .i64 t.op,.string (Oo t.sort),.string (Oo t.text),.int .i64 t.a,.int .i64 t.b,.slice qk t.kids.length dk],.int .i64 (i:Nat)] W fun e w'=>e=.returned (.int .i64 ((Ov (Oc (Oq S)) (Ke T ((t.kids[i]?).getD 0)).sort).width:Nat))/\O8 W w' kb sb fb gb n S F T vS vF vT v5 1):=fun i hi n W gg hb hn hk=>S4 hb t _ (j6.o.keep hk) HR.o i hi hT hl HZ.o hn
 by_cases e6:t.op=11
 ·have I:Hid (asked (Ov (Oc (Oq S))) num F (Od F) T t=G4 F (Od F) t):=by unfold Hid asked;simp only;rw[if_pos e6]
  have z:(t.op==11)=true:=by simp[e6]
  clear e6
  go_wp2_with fail
  refine (UV kb fb F (Od F) vF t qk dk _ O.o.box.c7.2.1 O.o.fr O.o.box.c7.2.2.2.2.1 O.o.fm (fun s i hi=>(Zk.1 hi).1) hF htx hl O.o.box.lt).mono ?_;generalize G4 F (Od F) t=B at I;rintro e w3 ⟨rfl,d7⟩;have g1:=Hd d7;clear d7
  go_wp2
  go_ret
  exact⟨Oy I.o.symm,U.o _ g1.o⟩
 by_cases d5:t.op=12
 ·have I:Hid (asked (Ov (Oc (Oq S))) num F (Od F) T t=num t):=by unfold Hid asked;simp only;rw[if_neg (by omega),if_pos d5]
  have HC:=Hd (h8.o d5);have z:(t.op==12)=true:=by simp[d5]
  have d2:(t.op==11)=false:=by rw[Jb];omega
  clear d5
  go_wp2_with fail
  refine (HC.o _ h1.o).mono ?_;generalize num t=B at I;rintro e w3 ⟨rfl,d7⟩;have g1:=Hd d7;clear d7
  go_wp2
  go_ret
  exact⟨Oy I.o.symm,U.o _ g1.o⟩
 by_cases g3:t.op=24
 ·have I:Hid (asked (Ov (Oc (Oq S))) num F (Od F) T t=(decide (t.text.length=X.width)&&t.text.all Gs)):=by unfold Hid asked;simp only;rw[if_neg (by omega),if_neg (by omega),if_pos (by omega),d4.o]
  have d2:(t.op==11)=false:=by rw[Jb];omega
  have e0:(t.op==12)=false:=by rw[Jb];omega
  have e1:(t.op==24)=true:=by simp[g3]
  clear g3;have m7:(Oo t.text).size=t.text.length:=by show t.text.toArray.size=_;simp
  rcases Kr (t.text.length:Int) (X.width:Int) with⟨Y,q0⟩|⟨Y,q0⟩
  ·have HL:Hid (t.text.length=X.width):=by unfold Hid;omega
   have k8:(t.text.length==X.width)=true:=by rw[Yf];omega
   have j9:(Oo t.text).size<=maxLen:=by unfold maxLen;omega
   clear Y
   go_wp2_with fail
   refine (QV (Oo t.text) _ j9).mono ?_;rw[Ou]
   rcases Kr ((Ek Gs t.text:Nat):Int) (X.width:Int) with⟨p1,q1⟩|⟨p1,q1⟩
   case' _=>
    have G:Hid (asked (Ov (Oc (Oq S))) num F (Od F) T t=true):=by unfold Hid;rw[I.o,Ja HL.o,Wk.1 (by have:=HL.o;omega)];rfl
   rotate_left
   case' _=>
    have G:Hid (asked (Ov (Oc (Oq S))) num F (Od F) T t=false):=by
     unfold Hid;rw[I.o,Ja HL.o,Zd,J8];intro h;exact p1 (by rw[Wk.2 h,HL.o])
   rotate_left
   all_goals
    clear p1;generalize Ek Gs t.text=q at q1;rintro e w3 ⟨rfl,rfl⟩
    go_wp2
    go_ret
    exact⟨Oy G.o.symm,U.o _ (Je _ _)⟩
  have G:Hid (asked (Ov (Oc (Oq S))) num F (Od F) T t=false):=by unfold Hid;rw[I.o,Jc (by omega)];rfl
  have k8:(t.text.length==X.width)=false:=by rw[Jb];omega
  clear Y
  go_wp2
  go_ret
  exact⟨Oy G.o.symm,U.o _ (Je _ _)⟩
 by_cases d6:t.op=42
 ·have I:Hid (asked (Ov (Oc (Oq S))) num F (Od F) T t=decide (X.width=(Ov (Oc (Oq S)) (Ke T ((t.kids[0]?).getD 0)).sort).width+(Ov (Oc (Oq S)) (Ke T ((t.kids[1]?).getD 0)).sort).width)):=by unfold Hid asked;simp only;rw[if_neg (by omega),if_neg (by omega),if_neg (by omega),if_pos (by omega),d4.o]
  have Z:0<t.kids.length:=by have:=d3.o;rw[show Ko t.op=2 by rw[d6];rfl] at this;omega
  obtain⟨y0,V⟩:∃ y,(Ov (Oc (Oq S)) (Ke T ((t.kids[0]?).getD 0)).sort).width=y:=⟨_,rfl⟩;have M:=Hd V;have d9:(y0:Int)<=64:=by have:=En (Oc (Oq S)) (Ke T ((t.kids[0]?).getD 0)).sort;omega
  clear V;have j8:1<t.kids.length:=by have:=d3.o;rw[show Ko t.op=2 by rw[d6];rfl] at this;omega
  obtain⟨y1,i7⟩:∃ y,(Ov (Oc (Oq S)) (Ke T ((t.kids[1]?).getD 0)).sort).width=y:=⟨_,rfl⟩;have h9:=Hd i7;have l2:(y1:Int)<=64:=by have:=En (Oc (Oq S)) (Ke T ((t.kids[1]?).getD 0)).sort;omega
  clear i7;have d8:(X.width:Int)<=64:=by omega
  rw[M.o,h9.o] at I;have d2:(t.op==11)=false:=by rw[Jb];omega
  have e0:(t.op==12)=false:=by rw[Jb];omega
  have e1:(t.op==24)=false:=by rw[Jb];omega
  have f8:(t.op==42)=true:=by simp[d6]
  clear d6
  rcases Kr (X.width:Int) ((y0:Int)+(y1:Int)) with⟨Y,q0⟩|⟨Y,q0⟩
  case' _=>
   have G:Hid (asked (Ov (Oc (Oq S))) num F (Od F) T t=true):=by unfold Hid;rw[I.o,Ja (by omega)]
  rotate_left
  case' _=>
   have G:Hid (asked (Ov (Oc (Oq S))) num F (Od F) T t=false):=by unfold Hid;rw[I.o,Jc (by omega)]
  rotate_left
  all_goals
   clear Y
   go_wp2
   go_region_held3 (fun W=>W.cell? ⟨w.heap.size,0,none⟩=some (.int .i64 t.op)/\W.cell? ⟨w.heap.size,1,none⟩=some (.string (Oo t.sort))/\W.cell? ⟨w.heap.size,2,none⟩=some (.string (Oo t.text))/\W.cell? ⟨w.heap.size,3,none⟩=some (.int .i64 t.a)/\W.cell? ⟨w.heap.size,4,none⟩=some (.int .i64 t.b)/\W.cell? ⟨w.heap.size,5,none⟩=some (.slice qk t.kids.length dk)) (first
    | assumption|go_keep) (first
    | (go_at_call 113;obtain⟨n5,g5,i6,g0,b9⟩:=j.o;refine (HW.o 1 j8 _ w5 _ g0 (by omega) (b9.keep O.o.km)).mono ?_;rw[h9.o];rintro e w6 ⟨rfl,i1⟩;have h0:Hid (O8 w2 w6 kb sb fb gb n2 S F T vS vF vT v5 2):=O8.comp i6 b9 i1;have l9:=J.o w6 (by obtain⟨n7,g7,-,-,h7⟩:=h0.o;exact h7);clear i1 i6 g0 b9)
    | (go_at_call 113;refine (HW.o 0 Z _ w2.drew _ (O.o.next (Je _ _).drew) (by omega) (Below.keep (Je _ _).drew)).mono ?_;rw[M.o];rintro e w5 ⟨rfl,A⟩;have j:Hid (O8 w2 w5 kb sb fb gb n2 S F T vS vF vT v5 1):=O8.after A (Je _ _).drew;have a8:=J.o w5 (by obtain⟨n7,g7,-,-,h7⟩:=j.o;exact h7);clear A))
   all_goals (go_wp2;go_ret;exact⟨Oy (by rw[Bf (by omega) (by omega),q0,G.o]),E.o _ 2 (by omega) h0.o⟩)
 by_cases e7:t.op=43
 ·have I:Hid (asked (Ov (Oc (Oq S))) num F (Od F) T t=(decide (t.a<((Ov (Oc (Oq S)) (Ke T ((t.kids[0]?).getD 0)).sort).width:Int))&&decide (t.b<=t.a)&&decide (0<=t.b)&&decide ((X.width:Int)=t.a - t.b+1))):=by unfold Hid asked;simp only;rw[if_neg (by omega),if_neg (by omega),if_neg (by omega),if_neg (by omega),if_pos (by omega),d4.o]
  have Z:0<t.kids.length:=by have:=d3.o;rw[show Ko t.op=1 by rw[e7];rfl] at this;omega
  obtain⟨y0,V⟩:∃ y,(Ov (Oc (Oq S)) (Ke T ((t.kids[0]?).getD 0)).sort).width=y:=⟨_,rfl⟩;have M:=Hd V;have d9:(y0:Int)<=64:=by have:=En (Oc (Oq S)) (Ke T ((t.kids[0]?).getD 0)).sort;omega
  clear V;have d8:(X.width:Int)<=64:=by omega
  rw[M.o] at I;have d2:(t.op==11)=false:=by rw[Jb];omega
  have e0:(t.op==12)=false:=by rw[Jb];omega
  have e1:(t.op==24)=false:=by rw[Jb];omega
  have f8:(t.op==42)=false:=by rw[Jb];omega
  have g8:(t.op==43)=true:=by simp[e7]
  clear e7
  rcases Ld t.a (y0:Int) with⟨Y,q0⟩|⟨Y,q0⟩
  ·rcases Qb t.b t.a with⟨p1,q1⟩|⟨p1,q1⟩
   ·rcases Qb 0 t.b with⟨p2,q2⟩|⟨p2,q2⟩
    ·rcases Kr (X.width:Int) (t.a - t.b+1) with⟨p3,q3⟩|⟨p3,q3⟩
     case' _=>
      have G:Hid (asked (Ov (Oc (Oq S))) num F (Od F) T t=true):=by unfold Hid;rw[I.o,Ja Y,Ja p1,Ja p2,Ja p3];rfl
     rotate_left
     case' _=>
      have G:Hid (asked (Ov (Oc (Oq S))) num F (Od F) T t=false):=by unfold Hid;rw[I.o,Ja Y,Ja p1,Ja p2,Jc p3];rfl
     rotate_left
     all_goals
      clear p3
      go_wp2
      go_region_held3 (fun W=>W.cell? ⟨w.heap.size,0,none⟩=some (.int .i64 t.op)/\W.cell? ⟨w.heap.size,1,none⟩=some (.string (Oo t.sort))/\W.cell? ⟨w.heap.size,2,none⟩=some (.string (Oo t.text))/\W.cell? ⟨w.heap.size,3,none⟩=some (.int .i64 t.a)/\W.cell? ⟨w.heap.size,4,none⟩=some (.int .i64 t.b)/\W.cell? ⟨w.heap.size,5,none⟩=some (.slice qk t.kids.length dk)) (first
       | assumption|go_keep) (first
       | (go_at_call 113;refine (HW.o 0 Z _ w2.drew _ (O.o.next (Je _ _).drew) (by omega) (Below.keep (Je _ _).drew)).mono ?_;rw[M.o];rintro e w5 ⟨rfl,A⟩;have j:Hid (O8 w2 w5 kb sb fb gb n2 S F T vS vF vT v5 1):=O8.after A (Je _ _).drew;have a8:=J.o w5 (by obtain⟨n7,g7,-,-,h7⟩:=j.o;exact h7);clear A))
      all_goals (go_wp2;go_ret;exact⟨Oy (by rw[Bf (x:=t.a - t.b) (by omega) (by omega),Bf (by omega) (by omega),q3,G.o]),E.o _ 1 (by omega) j.o⟩)
    have G:Hid (asked (Ov (Oc (Oq S))) num F (Od F) T t=false):=by unfold Hid;rw[I.o,Ja Y,Ja p1,Jc p2];rfl
    go_wp2_with fail
    refine BR 29 rfl (S:=fun W=>W.cell? ⟨w.heap.size,0,none⟩=some (.int .i64 t.op)/\W.cell? ⟨w.heap.size,1,none⟩=some (.string (Oo t.sort))/\W.cell? ⟨w.heap.size,2,none⟩=some (.string (Oo t.text))/\W.cell? ⟨w.heap.size,3,none⟩=some (.int .i64 t.a)/\W.cell? ⟨w.heap.size,4,none⟩=some (.int .i64 t.b)/\W.cell? ⟨w.heap.size,5,none⟩=some (.slice qk t.kids.length dk)) (by kernel_rfl) (J.o w2.drew (Bar.refl _ _).drew) (fun hHeld=>?_);refine tk 0 52 (v:=?_) rfl rfl (by kernel_rfl) (fun _ _ _ h=>h) (Or.inl ⟨by rfl,?_⟩) (by assumption) ?_
    rotate_left
    ·(intro w d;(try dsimp only at d);go_simp;(try with_reducible rfl))
    try simp only[Act.put,Jp,J0,Jz]
    refine tk 1 53 (v:=?_) rfl rfl (by kernel_rfl) (fun _ _ _ h=>h) (Or.inl ⟨by rfl,?_⟩) (by assumption) ?_
    rotate_left
    ·(intro w d;(try dsimp only at d);go_simp;(try with_reducible rfl))
    try simp only[Act.put,Jp,J0,Jz]
    refine tk 3 55 (v:=?_) rfl rfl (by kernel_rfl) (fun _ _ _ h=>h) (Or.inl ⟨by rfl,?_⟩) (by assumption) ?_
    rotate_left
    ·(intro w d;(try dsimp only at d);go_simp;(try with_reducible rfl))
    try simp only[Act.put,Jp,J0,Jz]
    refine tk 4 56 (v:=?_) rfl rfl (by kernel_rfl) (fun _ _ _ h=>h) (Or.inl ⟨by rfl,?_⟩) (by assumption) ?_
    rotate_left
    ·(intro w d;(try dsimp only at d);go_simp;(try with_reducible rfl))
    try simp only[Act.put,Jp,J0,Jz]
    refine wpAnyH_ready (rs:=[2]) (by kernel_rfl) (by simp) ?_;refine AllReadyH.cons rfl (fun K hK=>?_) AllReadyH.nil
    go_simp
    go_at_call 113
    refine (HW.o 0 Z _ w2.drew _ (O.o.next (Je _ _).drew) (by omega) (Below.keep (Je _ _).drew)).mono ?_;rw[M.o];rintro e w5 ⟨rfl,A⟩;have j:Hid (O8 w2 w5 kb sb fb gb n2 S F T vS vF vT v5 1):=O8.after A (Je _ _).drew;have a8:=J.o w5 (by obtain⟨n7,g7,-,-,h7⟩:=j.o;exact h7);clear A
    go_wp2_with fail
    refine hK.o _ _ a8 (fun hHeld2=>?_);clear hK K
    try simp only[Act.put,Jp,J0,Jz]
    iterate 23 ((first|(refine tkf 28 80 (v:=?_) rfl rfl (by kernel_rfl) (fun _ _ _ h=>h) (Or.inl ⟨by rfl,?_⟩) (by assumption) ?_;rotate_left;(intro w d;(try dsimp only at d);go_simp;(try with_reducible rfl)))|refine tkf 28 80 (v:=undef) rfl rfl (by kernel_rfl) (fun _ _ _ h=>h) (Or.inr ⟨by rfl,rfl⟩) (by assumption) ?_);simp only[Nat.reduceSub,Act.put,Jp,J0,Jz])
    refine tk 28 4 (v:=?_) rfl rfl (by kernel_rfl) (fun _ _ _ h=>h) (Or.inl ⟨by rfl,?_⟩) (by assumption) ?_
    rotate_left
    ·(intro w d;(try dsimp only at d);go_simp;(try with_reducible rfl))
    try simp only[Act.put,Jp,J0,Jz]
    refine wpAnyH_done (by kernel_rfl) ?_ _
    go_wp2
    go_ret
    exact⟨Oy G.o.symm,E.o _ 1 (by omega) j.o⟩
   have G:Hid (asked (Ov (Oc (Oq S))) num F (Od F) T t=false):=by unfold Hid;rw[I.o,Ja Y,Jc p1];rfl
   go_wp2_with fail
   refine BR 29 rfl (S:=fun W=>W.cell? ⟨w.heap.size,0,none⟩=some (.int .i64 t.op)/\W.cell? ⟨w.heap.size,1,none⟩=some (.string (Oo t.sort))/\W.cell? ⟨w.heap.size,2,none⟩=some (.string (Oo t.text))/\W.cell? ⟨w.heap.size,3,none⟩=some (.int .i64 t.a)/\W.cell? ⟨w.heap.size,4,none⟩=some (.int .i64 t.b)/\W.cell? ⟨w.heap.size,5,none⟩=some (.slice qk t.kids.length dk)) (by kernel_rfl) (J.o w2.drew (Bar.refl _ _).drew) (fun hHeld=>?_);refine tk 0 52 (v:=?_) rfl rfl (by kernel_rfl) (fun _ _ _ h=>h) (Or.inl ⟨by rfl,?_⟩) (by assumption) ?_
   rotate_left
   ·(intro w d;(try dsimp only at d);go_simp;(try with_reducible rfl))
   try simp only[Act.put,Jp,J0,Jz]
   refine tk 1 53 (v:=?_) rfl rfl (by kernel_rfl) (fun _ _ _ h=>h) (Or.inl ⟨by rfl,?_⟩) (by assumption) ?_
   rotate_left
   ·(intro w d;(try dsimp only at d);go_simp;(try with_reducible rfl))
   try simp only[Act.put,Jp,J0,Jz]
   refine tk 3 55 (v:=?_) rfl rfl (by kernel_rfl) (fun _ _ _ h=>h) (Or.inl ⟨by rfl,?_⟩) (by assumption) ?_
   rotate_left
   ·(intro w d;(try dsimp only at d);go_simp;(try with_reducible rfl))
   try simp only[Act.put,Jp,J0,Jz]
   refine tk 4 56 (v:=?_) rfl rfl (by kernel_rfl) (fun _ _ _ h=>h) (Or.inl ⟨by rfl,?_⟩) (by assumption) ?_
   rotate_left
   ·(intro w d;(try dsimp only at d);go_simp;(try with_reducible rfl))
   try simp only[Act.put,Jp,J0,Jz]
   refine wpAnyH_ready (rs:=[2]) (by kernel_rfl) (by simp) ?_;refine AllReadyH.cons rfl (fun K hK=>?_) AllReadyH.nil
   go_simp
   go_at_call 113
   refine (HW.o 0 Z _ w2.drew _ (O.o.next (Je _ _).drew) (by omega) (Below.keep (Je _ _).drew)).mono ?_;rw[M.o];rintro e w5 ⟨rfl,A⟩;have j:Hid (O8 w2 w5 kb sb fb gb n2 S F T vS vF vT v5 1):=O8.after A (Je _ _).drew;have a8:=J.o w5 (by obtain⟨n7,g7,-,-,h7⟩:=j.o;exact h7);clear A
   go_wp2_with fail
   refine hK.o _ _ a8 (fun hHeld2=>?_);clear hK K
   try simp only[Act.put,Jp,J0,Jz]
   iterate 23 ((first|(refine tkf 28 80 (v:=?_) rfl rfl (by kernel_rfl) (fun _ _ _ h=>h) (Or.inl ⟨by rfl,?_⟩) (by assumption) ?_;rotate_left;(intro w d;(try dsimp only at d);go_simp;(try with_reducible rfl)))|refine tkf 28 80 (v:=undef) rfl rfl (by kernel_rfl) (fun _ _ _ h=>h) (Or.inr ⟨by rfl,rfl⟩) (by assumption) ?_);simp only[Nat.reduceSub,Act.put,Jp,J0,Jz])
   refine tk 28 4 (v:=?_) rfl rfl (by kernel_rfl) (fun _ _ _ h=>h) (Or.inl ⟨by rfl,?_⟩) (by assumption) ?_
   rotate_left
   ·(intro w d;(try dsimp only at d);go_simp;(try with_reducible rfl))
   try simp only[Act.put,Jp,J0,Jz]
   refine wpAnyH_done (by kernel_rfl) ?_ _
   go_wp2
   go_ret
   exact⟨Oy G.o.symm,E.o _ 1 (by omega) j.o⟩
  have G:Hid (asked (Ov (Oc (Oq S))) num F (Od F) T t=false):=by unfold Hid;rw[I.o,Jc Y];rfl
  go_wp2_with fail
  refine BR 29 rfl (S:=fun W=>W.cell? ⟨w.heap.size,0,none⟩=some (.int .i64 t.op)/\W.cell? ⟨w.heap.size,1,none⟩=some (.string (Oo t.sort))/\W.cell? ⟨w.heap.size,2,none⟩=some (.string (Oo t.text))/\W.cell? ⟨w.heap.size,3,none⟩=some (.int .i64 t.a)/\W.cell? ⟨w.heap.size,4,none⟩=some (.int .i64 t.b)/\W.cell? ⟨w.heap.size,5,none⟩=some (.slice qk t.kids.length dk)) (by kernel_rfl) (J.o w2.drew (Bar.refl _ _).drew) (fun hHeld=>?_);refine tk 0 52 (v:=?_) rfl rfl (by kernel_rfl) (fun _ _ _ h=>h) (Or.inl ⟨by rfl,?_⟩) (by assumption) ?_
  rotate_left
  ·(intro w d;(try dsimp only at d);go_simp;(try with_reducible rfl))
  try simp only[Act.put,Jp,J0,Jz]
  refine tk 1 53 (v:=?_) rfl rfl (by kernel_rfl) (fun _ _ _ h=>h) (Or.inl ⟨by rfl,?_⟩) (by assumption) ?_
  rotate_left
  ·(intro w d;(try dsimp only at d);go_simp;(try with_reducible rfl))
  try simp only[Act.put,Jp,J0,Jz]
  refine tk 3 55 (v:=?_) rfl rfl (by kernel_rfl) (fun _ _ _ h=>h) (Or.inl ⟨by rfl,?_⟩) (by assumption) ?_
  rotate_left
  ·(intro w d;(try dsimp only at d);go_simp;(try with_reducible rfl))
  try simp only[Act.put,Jp,J0,Jz]
  refine tk 4 56 (v:=?_) rfl rfl (by kernel_rfl) (fun _ _ _ h=>h) (Or.inl ⟨by rfl,?_⟩) (by assumption) ?_
  rotate_left
  ·(intro w d;(try dsimp only at d);go_simp;(try with_reducible rfl))
  try simp only[Act.put,Jp,J0,Jz]
  refine wpAnyH_ready (rs:=[2]) (by kernel_rfl) (by simp) ?_;refine AllReadyH.cons rfl (fun K hK=>?_) AllReadyH.nil
  go_simp
  go_at_call 113
  refine (HW.o 0 Z _ w2.drew _ (O.o.next (Je _ _).drew) (by omega) (Below.keep (Je _ _).drew)).mono ?_;rw[M.o];rintro e w5 ⟨rfl,A⟩;have j:Hid (O8 w2 w5 kb sb fb gb n2 S F T vS vF vT v5 1):=O8.after A (Je _ _).drew;have a8:=J.o w5 (by obtain⟨n7,g7,-,-,h7⟩:=j.o;exact h7);clear A
  go_wp2_with fail
  refine hK.o _ _ a8 (fun hHeld2=>?_);clear hK K
  try simp only[Act.put,Jp,J0,Jz]
  iterate 23 ((first|(refine tkf 28 80 (v:=?_) rfl rfl (by kernel_rfl) (fun _ _ _ h=>h) (Or.inl ⟨by rfl,?_⟩) (by assumption) ?_;rotate_left;(intro w d;(try dsimp only at d);go_simp;(try with_reducible rfl)))|refine tkf 28 80 (v:=undef) rfl rfl (by kernel_rfl) (fun _ _ _ h=>h) (Or.inr ⟨by rfl,rfl⟩) (by assumption) ?_);simp only[Nat.reduceSub,Act.put,Jp,J0,Jz])
  refine tk 28 4 (v:=?_) rfl rfl (by kernel_rfl) (fun _ _ _ h=>h) (Or.inl ⟨by rfl,?_⟩) (by assumption) ?_
  rotate_left
  ·(intro w d;(try dsimp only at d);go_simp;(try with_reducible rfl))
  try simp only[Act.put,Jp,J0,Jz]
  refine wpAnyH_done (by kernel_rfl) ?_ _
  go_wp2
  go_ret
  exact⟨Oy G.o.symm,E.o _ 1 (by omega) j.o⟩
 by_cases e8:t.op=44
 ·have I:Hid (asked (Ov (Oc (Oq S))) num F (Od F) T t=(decide (1<=t.a)&&decide (t.a=(X.width:Int) - ((Ov (Oc (Oq S)) (Ke T ((t.kids[0]?).getD 0)).sort).width:Int)))):=by unfold Hid asked;simp only;rw[if_neg (by omega),if_neg (by omega),if_neg (by omega),if_neg (by omega),if_neg (by omega),if_pos (by omega),d4.o]
  have Z:0<t.kids.length:=by have:=d3.o;rw[show Ko t.op=1 by rw[e8];rfl] at this;omega
  obtain⟨y0,V⟩:∃ y,(Ov (Oc (Oq S)) (Ke T ((t.kids[0]?).getD 0)).sort).width=y:=⟨_,rfl⟩;have M:=Hd V;have d9:(y0:Int)<=64:=by have:=En (Oc (Oq S)) (Ke T ((t.kids[0]?).getD 0)).sort;omega
  clear V;have d8:(X.width:Int)<=64:=by omega
  rw[M.o] at I;have d2:(t.op==11)=false:=by rw[Jb];omega
  have e0:(t.op==12)=false:=by rw[Jb];omega
  have e1:(t.op==24)=false:=by rw[Jb];omega
  have f8:(t.op==42)=false:=by rw[Jb];omega
  have g8:(t.op==43)=false:=by rw[Jb];omega
  have j0:(t.op==44)=true:=by simp[e8]
  clear e8
  rcases Qb 1 t.a with⟨Y,q0⟩|⟨Y,q0⟩
  ·rcases Kr t.a ((X.width:Int) - (y0:Int)) with⟨p1,q1⟩|⟨p1,q1⟩
   case' _=>
    have G:Hid (asked (Ov (Oc (Oq S))) num F (Od F) T t=true):=by unfold Hid;rw[I.o,Ja Y,Ja p1];rfl
   rotate_left
   case' _=>
    have G:Hid (asked (Ov (Oc (Oq S))) num F (Od F) T t=false):=by unfold Hid;rw[I.o,Ja Y,Jc p1];rfl
   rotate_left
   all_goals
    clear p1
    go_wp2
    go_region_held3 (fun W=>W.cell? ⟨w.heap.size,0,none⟩=some (.int .i64 t.op)/\W.cell? ⟨w.heap.size,1,none⟩=some (.string (Oo t.sort))/\W.cell? ⟨w.heap.size,2,none⟩=some (.string (Oo t.text))/\W.cell? ⟨w.heap.size,3,none⟩=some (.int .i64 t.a)/\W.cell? ⟨w.heap.size,4,none⟩=some (.int .i64 t.b)/\W.cell? ⟨w.heap.size,5,none⟩=some (.slice qk t.kids.length dk)) (first
     | assumption|go_keep) (first
     | (go_at_call 113;refine (HW.o 0 Z _ w2.drew _ (O.o.next (Je _ _).drew) (by omega) (Below.keep (Je _ _).drew)).mono ?_;rw[M.o];rintro e w5 ⟨rfl,A⟩;have j:Hid (O8 w2 w5 kb sb fb gb n2 S F T vS vF vT v5 1):=O8.after A (Je _ _).drew;have a8:=J.o w5 (by obtain⟨n7,g7,-,-,h7⟩:=j.o;exact h7);clear A))
    all_goals (go_wp2;go_ret;exact⟨Oy (by rw[Bf (by omega) (by omega),q1,G.o]),E.o _ 1 (by omega) j.o⟩)
  have G:Hid (asked (Ov (Oc (Oq S))) num F (Od F) T t=false):=by unfold Hid;rw[I.o,Jc Y];rfl
  go_wp2_with fail
  refine BR 14 rfl (S:=fun W=>W.cell? ⟨w.heap.size,0,none⟩=some (.int .i64 t.op)/\W.cell? ⟨w.heap.size,1,none⟩=some (.string (Oo t.sort))/\W.cell? ⟨w.heap.size,2,none⟩=some (.string (Oo t.text))/\W.cell? ⟨w.heap.size,3,none⟩=some (.int .i64 t.a)/\W.cell? ⟨w.heap.size,4,none⟩=some (.int .i64 t.b)/\W.cell? ⟨w.heap.size,5,none⟩=some (.slice qk t.kids.length dk)) (by kernel_rfl) (J.o w2.drew (Bar.refl _ _).drew) (fun hHeld=>?_)
  iterate 13 ((first|(refine tkf 13 96 (v:=?_) rfl rfl (by kernel_rfl) (fun _ _ _ h=>h) (Or.inl ⟨by rfl,?_⟩) (by assumption) ?_;rotate_left;(intro w d;(try dsimp only at d);go_simp;(try with_reducible rfl)))|refine tkf 13 96 (v:=undef) rfl rfl (by kernel_rfl) (fun _ _ _ h=>h) (Or.inr ⟨by rfl,rfl⟩) (by assumption) ?_);simp only[Nat.reduceSub,Act.put,Jp,J0,Jz])
  refine tk 13 4 (v:=?_) rfl rfl (by kernel_rfl) (fun _ _ _ h=>h) (Or.inl ⟨by rfl,?_⟩) (by assumption) ?_
  rotate_left
  ·(intro w d;(try dsimp only at d);go_simp;(try with_reducible rfl))
  try simp only[Act.put,Jp,J0,Jz]
  refine wpAnyH_done (by kernel_rfl) ?_ _
  go_wp2
  go_ret
  exact⟨Oy G.o.symm,U.o _ (Je _ _).drew⟩
 by_cases e9:t.op=45
 ·have I:Hid (asked (Ov (Oc (Oq S))) num F (Od F) T t=(decide (1<=t.a)&&decide (t.a=(X.width:Int) - ((Ov (Oc (Oq S)) (Ke T ((t.kids[0]?).getD 0)).sort).width:Int)))):=by unfold Hid asked;simp only;rw[if_neg (by omega),if_neg (by omega),if_neg (by omega),if_neg (by omega),if_neg (by omega),if_pos (by omega),d4.o]
  have Z:0<t.kids.length:=by have:=d3.o;rw[show Ko t.op=1 by rw[e9];rfl] at this;omega
  obtain⟨y0,V⟩:∃ y,(Ov (Oc (Oq S)) (Ke T ((t.kids[0]?).getD 0)).sort).width=y:=⟨_,rfl⟩;have M:=Hd V;have d9:(y0:Int)<=64:=by have:=En (Oc (Oq S)) (Ke T ((t.kids[0]?).getD 0)).sort;omega
  clear V;have d8:(X.width:Int)<=64:=by omega
  rw[M.o] at I;have d2:(t.op==11)=false:=by rw[Jb];omega
  have e0:(t.op==12)=false:=by rw[Jb];omega
  have e1:(t.op==24)=false:=by rw[Jb];omega
  have f8:(t.op==42)=false:=by rw[Jb];omega
  have g8:(t.op==43)=false:=by rw[Jb];omega
  have j0:(t.op==44)=false:=by rw[Jb];omega
  have k9:(t.op==45)=true:=by simp[e9]
  clear e9
  rcases Qb 1 t.a with⟨Y,q0⟩|⟨Y,q0⟩
  ·rcases Kr t.a ((X.width:Int) - (y0:Int)) with⟨p1,q1⟩|⟨p1,q1⟩
   case' _=>
    have G:Hid (asked (Ov (Oc (Oq S))) num F (Od F) T t=true):=by unfold Hid;rw[I.o,Ja Y,Ja p1];rfl
   rotate_left
   case' _=>
    have G:Hid (asked (Ov (Oc (Oq S))) num F (Od F) T t=false):=by unfold Hid;rw[I.o,Ja Y,Jc p1];rfl
   rotate_left
   all_goals
    clear p1
    go_wp2
    go_region_held3 (fun W=>W.cell? ⟨w.heap.size,0,none⟩=some (.int .i64 t.op)/\W.cell? ⟨w.heap.size,1,none⟩=some (.string (Oo t.sort))/\W.cell? ⟨w.heap.size,2,none⟩=some (.string (Oo t.text))/\W.cell? ⟨w.heap.size,3,none⟩=some (.int .i64 t.a)/\W.cell? ⟨w.heap.size,4,none⟩=some (.int .i64 t.b)/\W.cell? ⟨w.heap.size,5,none⟩=some (.slice qk t.kids.length dk)) (first
     | assumption|go_keep) (first
     | (go_at_call 113;refine (HW.o 0 Z _ w2.drew _ (O.o.next (Je _ _).drew) (by omega) (Below.keep (Je _ _).drew)).mono ?_;rw[M.o];rintro e w5 ⟨rfl,A⟩;have j:Hid (O8 w2 w5 kb sb fb gb n2 S F T vS vF vT v5 1):=O8.after A (Je _ _).drew;have a8:=J.o w5 (by obtain⟨n7,g7,-,-,h7⟩:=j.o;exact h7);clear A))
    all_goals (go_wp2;go_ret;exact⟨Oy (by rw[Bf (by omega) (by omega),q1,G.o]),E.o _ 1 (by omega) j.o⟩)
  have G:Hid (asked (Ov (Oc (Oq S))) num F (Od F) T t=false):=by unfold Hid;rw[I.o,Jc Y];rfl
  go_wp2_with fail
  refine BR 14 rfl (S:=fun W=>W.cell? ⟨w.heap.size,0,none⟩=some (.int .i64 t.op)/\W.cell? ⟨w.heap.size,1,none⟩=some (.string (Oo t.sort))/\W.cell? ⟨w.heap.size,2,none⟩=some (.string (Oo t.text))/\W.cell? ⟨w.heap.size,3,none⟩=some (.int .i64 t.a)/\W.cell? ⟨w.heap.size,4,none⟩=some (.int .i64 t.b)/\W.cell? ⟨w.heap.size,5,none⟩=some (.slice qk t.kids.length dk)) (by kernel_rfl) (J.o w2.drew (Bar.refl _ _).drew) (fun hHeld=>?_)
  iterate 13 ((first|(refine tkf 13 96 (v:=?_) rfl rfl (by kernel_rfl) (fun _ _ _ h=>h) (Or.inl ⟨by rfl,?_⟩) (by assumption) ?_;rotate_left;(intro w d;(try dsimp only at d);go_simp;(try with_reducible rfl)))|refine tkf 13 96 (v:=undef) rfl rfl (by kernel_rfl) (fun _ _ _ h=>h) (Or.inr ⟨by rfl,rfl⟩) (by assumption) ?_);simp only[Nat.reduceSub,Act.put,Jp,J0,Jz])
  refine tk 13 4 (v:=?_) rfl rfl (by kernel_rfl) (fun _ _ _ h=>h) (Or.inl ⟨by rfl,?_⟩) (by assumption) ?_
  rotate_left
  ·(intro w d;(try dsimp only at d);go_simp;(try with_reducible rfl))
  try simp only[Act.put,Jp,J0,Jz]
  refine wpAnyH_done (by kernel_rfl) ?_ _
  go_wp2
  go_ret
  exact⟨Oy G.o.symm,U.o _ (Je _ _).drew⟩
 have I:Hid (asked (Ov (Oc (Oq S))) num F (Od F) T t=true):=by
  unfold Hid asked;simp only;rw[if_neg (by omega),if_neg (by omega),if_neg (by omega),if_neg (by omega),if_neg (by omega),if_neg (by omega)]
 have d2:(t.op==11)=false:=by rw[Jb];omega
 have e0:(t.op==12)=false:=by rw[Jb];omega
 have e1:(t.op==24)=false:=by rw[Jb];omega
 have f8:(t.op==42)=false:=by rw[Jb];omega
 have g8:(t.op==43)=false:=by rw[Jb];omega
 have j0:(t.op==44)=false:=by rw[Jb];omega
 have k9:(t.op==45)=false:=by rw[Jb];omega
 clear e6 d5 g3 d6 e7 e8 e9
 go_wp2
 go_ret
 exact⟨Oy I.o.symm,U.o _ (Je _ _)⟩
end Go.Proofs.YtdmdmgfjpomdbaaGreatDoor
