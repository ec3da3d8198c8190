import Derived.Test.YtipgjenolpofpaaGreatDoorP26
import Derived.Test.YtipgjenolpofpaaGreatDoorP35
set_option maxRecDepth 100000
set_option maxHeartbeats 16000000
namespace Go.Proofs.YtipgjenolpofpaaGreatDoor
open ChangeShapes WideShapes ChangeAt RowKit Proofs.Tryz
theorem O6.comp {w w2 w':World}{kb sb fb gb n n2:Nat}{S:List (List UInt8)}{F:List Fn}{T:List Tm}{vS vF vT v5:Value}{m m2:Nat}(h2:n2<=n+m2)(hb:Bar gb w w2)(ha:O6 w2 w' kb sb fb gb n2 S F T vS vF vT v5 m):O6 w w' kb sb fb gb n S F T vS vF vT v5 (m2+m):=by
 obtain⟨n',d,h,h3,h4⟩:=ha;exact⟨n',d,by omega,h3,hb.trans h4⟩
theorem Ln {x:Int}(h1 : -9223372036854775808<=x)(h2:x<=9223372036854775807):IntKind.i64.wrap x=x:=by
 unfold IntKind.wrap;simp only[IntKind.bits,IntKind.signed];simp;omega
theorem A7 {l:List UInt8}:(Ks Hu l=l.length)↔l.all Hu=true:=by
 induction l with
 | nil=>simp[Ks]
 | cons c r ih=>
   have:=UF Hu r;unfold Ks
   cases h:Hu c
   ·simp[h]
   simp[h,ih]
theorem Ba {w:World}{kb sb fb gb n:Nat}{S:List (List UInt8)}{F:List Fn}{T:List Tm}{vS vF vT v5:Value}{g:List UInt8->Option SI}(h:BK w kb sb fb gb n S F T vS vF vT v5 g)(t:Tm)(vk:Value)(hk:U5 w vk t.kids)(hr:Xz T.length t=true)(num:Tm->Bool)(hT:T.length<=1000000)(hl:t.kids.length<=1000000)(hF:F.length<=1000)(hz:∀ u∈T,u.sort.length<=1048576)(hts:t.sort.length<=1048576)(htx:t.text.length<=1048576)(hn:n<=900000000)(hop:Kh t.op<=t.kids.length)
 (hnum:t.op=12->∀ W,Bar gb w W->Calls prog 118 #[.string (Oo t.sort),.string (Oo t.text)] W fun e w'=>e=.returned (.bool (num t))/\Up W w') :
 Calls prog 102 #[.pointer (some ⟨kb,0,none⟩),Ie t vk] w fun e w'=>e=.returned (.bool (U7 (Ov (Oh (Og S))) num F (Oq F) T t))/\O6 w w' kb sb fb gb n S F T vS vF vT v5 3:=by
 obtain⟨qk,dk,rfl,k0,k1,i7⟩:=hk;have HH:=Hd h;have HI:Hid (U5 w (.slice qk t.kids.length dk) t.kids):=⟨qk,dk,rfl,k0,k1,i7⟩;have HR:=Hd hr;have HZ:=Hd hz;have h2:=Hd hnum;have d4:=Hd hop;clear h i7 hr hz hnum hop;have j9:(Oo t.sort).size<=1048576:=by show t.sort.toArray.size<=_;simpa using hts
 have m5:(Oo t.text).size<=1048576:=by show t.text.toArray.size<=_;simpa using htx
 have HB:Hid (Up w (w.alloc (.cells #[.int .i64 t.op,.string (Oo t.sort),.string (Oo t.text),.int .i64 t.a,.int .i64 t.b,.slice qk t.kids.length dk] 57))):=Oy _ _;have h1:Hid (Bx (w.alloc (.cells #[.int .i64 t.op,.string (Oo t.sort),.string (Oo t.text),.int .i64 t.a,.int .i64 t.b,.slice qk t.kids.length dk] 57)) w.heap.size [.int .i64 t.op,.string (Oo t.sort),.string (Oo t.text),.int .i64 t.a,.int .i64 t.b,.slice qk t.kids.length dk]):=Oi _ _ _;unfold Ie
 go_in
 go_wp2_with fail
 refine (ask_sort (HH.o.next HB.o) (Oo t.sort) j9 (by omega)).mono ?_;rw[Ou];obtain⟨X,hX⟩:=O1 (Ov (Oh (Og S)) t.sort);have d5:=Hd hX;have m7:X.width<=64:=by rw[<-hX];exact Eu _ _
 rw[hX];clear hX;rintro e O ⟨rfl,j6⟩;obtain⟨n2,g2,h9,d0,b4⟩:=j6;have b8:=b4.keep (HH.o.next HB.o).km;have U:=Hd d0;have h0:Hid (Bar gb w O):=(Bar.of HB.o).trans b4;have j5:Hid (U5 O (.slice qk t.kids.length dk) t.kids):=(HI.o.bl HB.o).keep b8;have c8:=h1.o;have J:Hid (∀ W,Bar gb O W->(W.cell? ⟨w.heap.size,0,none⟩=some (.int .i64 t.op)/\W.cell? ⟨w.heap.size,1,none⟩=some (.string (Oo t.sort))/\W.cell? ⟨w.heap.size,2,none⟩=some (.string (Oo t.text))/\W.cell? ⟨w.heap.size,3,none⟩=some (.int .i64 t.a)/\W.cell? ⟨w.heap.size,4,none⟩=some (.int .i64 t.b)/\W.cell? ⟨w.heap.size,5,none⟩=some (.slice qk t.kids.length dk))):=fun W hW=>by
  have d2:=hW.keep d0.km;exact⟨d2.cell _ _ (b8.cell _ _ (c8.cell 0)),d2.cell _ _ (b8.cell _ _ (c8.cell 1)),d2.cell _ _ (b8.cell _ _ (c8.cell 2)),d2.cell _ _ (b8.cell _ _ (c8.cell 3)),d2.cell _ _ (b8.cell _ _ (c8.cell 4)),d2.cell _ _ (b8.cell _ _ (c8.cell 5))⟩
 have E:Hid (∀ W m,m<=2->O6 O W kb sb fb gb n2 S F T vS vF vT v5 m->O6 w W kb sb fb gb n S F T vS vF vT v5 3):=fun W m hm ha=>(O6.comp h9 ((Bar.of HB.o).trans b4) ha).more (by omega);have V:Hid (∀ W,Up O W->O6 w W kb sb fb gb n S F T vS vF vT v5 3):=fun W hW=>E.o W 0 (by omega) (O6.of d0 hW 0);have l0:n2<=950000000:=by omega
 have d1:=J.o O (Bar.refl _ _);have t0:=d1.1;have t1:=d1.2.1;have t2:=d1.2.2.1;have t3:=d1.2.2.2.1;have t4:=d1.2.2.2.2.1;have t5:=d1.2.2.2.2.2;clear b8 d0 b4 c8 h1 HB HI HH h9;have hg:=(DB X O).1;unfold N9 at hg ⊢;have HW:Hid (∀ i (hi:i<t.kids.length) n W gg,BK W kb sb fb gb n S F T vS vF vT v5 gg->n<=1000000000->Keep O W->Calls prog 121 #[.pointer (some ⟨kb,0,none⟩),.agg #[.int .i64 t.op,.string (Oo t.sort),.string (Oo t.text),.int .i64 t.a,.int .i64 t.b,.slice qk t.kids.length dk],.int .i64 (i:Nat)] W fun e w'=>e=.returned (.int .i64 ((Ov (Oh (Og S)) (Ky T ((t.kids[i]?).getD 0)).sort).width:Nat))/\O6 W w' kb sb fb gb n S F T vS vF vT v5 1):=fun i hi n W gg hb hn hk=>B0 hb t _ (j5.o.keep hk) HR.o i hi hT hl HZ.o hn
 by_cases e6:t.op=11
 ·have I:Hid (U7 (Ov (Oh (Og S))) num F (Oq F) T t=Gz F (Oq F) t):=by unfold Hid U7;simp only;rw[if_pos e6]
  have z:(t.op==11)=true:=by simp[e6]
  clear e6
  go_wp2_with fail
  refine (OS kb fb F (Oq F) vF t qk dk _ U.o.box.c7.2.1 U.o.fr U.o.box.c7.2.2.2.2.1 U.o.fm (fun s i hi=>(Zk.1 hi).1) hF htx hl U.o.box.lt).mono ?_;generalize Gz F (Oq F) t=B at I;rintro e w3 ⟨rfl,d8⟩;have g0:=Hd d8;clear d8
  go_wp2
  go_ret
  exact⟨Oz I.o.symm,V.o _ g0.o⟩
 by_cases d6:t.op=12
 ·have I:Hid (U7 (Ov (Oh (Og S))) num F (Oq F) T t=num t):=by unfold Hid U7;simp only;rw[if_neg (by omega),if_pos d6]
  have HC:=Hd (h2.o d6);have z:(t.op==12)=true:=by simp[d6]
  have d3:(t.op==11)=false:=by rw[Jc];omega
  clear d6
  go_wp2_with fail
  refine (HC.o _ h0.o).mono ?_;generalize num t=B at I;rintro e w3 ⟨rfl,d8⟩;have g0:=Hd d8;clear d8
  go_wp2
  go_ret
  exact⟨Oz I.o.symm,V.o _ g0.o⟩
 by_cases g1:t.op=24
 ·have I:Hid (U7 (Ov (Oh (Og S))) num F (Oq F) T t=(decide (t.text.length=X.width)&&t.text.all Hu)):=by unfold Hid U7;simp only;rw[if_neg (by omega),if_neg (by omega),if_pos (by omega),d5.o]
  have d3:(t.op==11)=false:=by rw[Jc];omega
  have e1:(t.op==12)=false:=by rw[Jc];omega
  have e2:(t.op==24)=true:=by simp[g1]
  clear g1;have m6:(Oo t.text).size=t.text.length:=by show t.text.toArray.size=_;simp
  rcases Em (t.text.length:Int) (X.width:Int) with⟨Z,q0⟩|⟨Z,q0⟩
  ·have HL:Hid (t.text.length=X.width):=by unfold Hid;omega
   have k7:(t.text.length==X.width)=true:=by rw[Yc];omega
   have j8:(Oo t.text).size<=maxLen:=by unfold maxLen;omega
   clear Z
   go_wp2_with fail
   refine (NJ (Oo t.text) _ j8).mono ?_;rw[Ou]
   rcases Em ((Ks Hu t.text:Nat):Int) (X.width:Int) with⟨p1,q1⟩|⟨p1,q1⟩
   case' _=>
    have G:Hid (U7 (Ov (Oh (Og S))) num F (Oq F) T t=true):=by unfold Hid;rw[I.o,Jb HL.o,A7.1 (by have:=HL.o;omega)];rfl
   rotate_left
   case' _=>
    have G:Hid (U7 (Ov (Oh (Og S))) num F (Oq F) T t=false):=by
     unfold Hid;rw[I.o,Jb HL.o,Za,J9];intro h;exact p1 (by rw[A7.2 h,HL.o])
   rotate_left
   all_goals
    clear p1;generalize Ks Hu t.text=q at q1;rintro e w3 ⟨rfl,rfl⟩
    go_wp2
    go_ret
    exact⟨Oz G.o.symm,V.o _ (Jh _ _)⟩
  have G:Hid (U7 (Ov (Oh (Og S))) num F (Oq F) T t=false):=by unfold Hid;rw[I.o,Jg (by omega)];rfl
  have k7:(t.text.length==X.width)=false:=by rw[Jc];omega
  clear Z
  go_wp2
  go_ret
  exact⟨Oz G.o.symm,V.o _ (Jh _ _)⟩
 by_cases d7:t.op=42
 ·have I:Hid (U7 (Ov (Oh (Og S))) num F (Oq F) T t=decide (X.width=(Ov (Oh (Og S)) (Ky T ((t.kids[0]?).getD 0)).sort).width+(Ov (Oh (Og S)) (Ky T ((t.kids[1]?).getD 0)).sort).width)):=by unfold Hid U7;simp only;rw[if_neg (by omega),if_neg (by omega),if_neg (by omega),if_pos (by omega),d5.o]
  have a7:0<t.kids.length:=by have:=d4.o;rw[show Kh t.op=2 by rw[d7];rfl] at this;omega
  obtain⟨y0,Y⟩:∃ y,(Ov (Oh (Og S)) (Ky T ((t.kids[0]?).getD 0)).sort).width=y:=⟨_,rfl⟩;have M:=Hd Y;have e0:(y0:Int)<=64:=by have:=Eu (Oh (Og S)) (Ky T ((t.kids[0]?).getD 0)).sort;omega
  clear Y;have j7:1<t.kids.length:=by have:=d4.o;rw[show Kh t.op=2 by rw[d7];rfl] at this;omega
  obtain⟨y1,i6⟩:∃ y,(Ov (Oh (Og S)) (Ky T ((t.kids[1]?).getD 0)).sort).width=y:=⟨_,rfl⟩;have h6:=Hd i6;have l1:(y1:Int)<=64:=by have:=Eu (Oh (Og S)) (Ky T ((t.kids[1]?).getD 0)).sort;omega
  clear i6;have d9:(X.width:Int)<=64:=by omega
  rw[M.o,h6.o] at I;have d3:(t.op==11)=false:=by rw[Jc];omega
  have e1:(t.op==12)=false:=by rw[Jc];omega
  have e2:(t.op==24)=false:=by rw[Jc];omega
  have f5:(t.op==42)=true:=by simp[d7]
  clear d7
  rcases Em (X.width:Int) ((y0:Int)+(y1:Int)) with⟨Z,q0⟩|⟨Z,q0⟩
  case' _=>
   have G:Hid (U7 (Ov (Oh (Og S))) num F (Oq F) T t=true):=by unfold Hid;rw[I.o,Jb (by omega)]
  rotate_left
  case' _=>
   have G:Hid (U7 (Ov (Oh (Og S))) num F (Oq F) T t=false):=by unfold Hid;rw[I.o,Jg (by omega)]
  rotate_left
  all_goals
   clear Z
   go_wp2
   go_region_held3 (fun W=>W.cell? ⟨w.heap.size,0,none⟩=some (.int .i64 t.op)/\W.cell? ⟨w.heap.size,1,none⟩=some (.string (Oo t.sort))/\W.cell? ⟨w.heap.size,2,none⟩=some (.string (Oo t.text))/\W.cell? ⟨w.heap.size,3,none⟩=some (.int .i64 t.a)/\W.cell? ⟨w.heap.size,4,none⟩=some (.int .i64 t.b)/\W.cell? ⟨w.heap.size,5,none⟩=some (.slice qk t.kids.length dk)) (first
    | assumption|go_keep) (first
    | (go_at_call 121;obtain⟨n5,g5,i1,f9,c6⟩:=j.o;refine (HW.o 1 j7 _ w5 _ f9 (by omega) (c6.keep U.o.km)).mono ?_;rw[h6.o];rintro e w6 ⟨rfl,h8⟩;have g9:Hid (O6 O w6 kb sb fb gb n2 S F T vS vF vT v5 2):=O6.comp i1 c6 h8;have l8:=J.o w6 (by obtain⟨n7,g7,-,-,h7⟩:=g9.o;exact h7);clear h8 i1 f9 c6)
    | (go_at_call 121;refine (HW.o 0 a7 _ O.drew _ (U.o.next (Jh _ _).drew) (by omega) (Below.keep (Jh _ _).drew)).mono ?_;rw[M.o];rintro e w5 ⟨rfl,A⟩;have j:Hid (O6 O w5 kb sb fb gb n2 S F T vS vF vT v5 1):=O6.after A (Jh _ _).drew;have b3:=J.o w5 (by obtain⟨n7,g7,-,-,h7⟩:=j.o;exact h7);clear A))
   all_goals (go_wp2;go_ret;exact⟨Oz (by rw[Ln (by omega) (by omega),q0,G.o]),E.o _ 2 (by omega) g9.o⟩)
 by_cases e7:t.op=43
 ·have I:Hid (U7 (Ov (Oh (Og S))) num F (Oq F) T t=(decide (t.a<((Ov (Oh (Og S)) (Ky T ((t.kids[0]?).getD 0)).sort).width:Int))&&decide (t.b<=t.a)&&decide (0<=t.b)&&decide ((X.width:Int)=t.a - t.b+1))):=by unfold Hid U7;simp only;rw[if_neg (by omega),if_neg (by omega),if_neg (by omega),if_neg (by omega),if_pos (by omega),d5.o]
  have a7:0<t.kids.length:=by have:=d4.o;rw[show Kh t.op=1 by rw[e7];rfl] at this;omega
  obtain⟨y0,Y⟩:∃ y,(Ov (Oh (Og S)) (Ky T ((t.kids[0]?).getD 0)).sort).width=y:=⟨_,rfl⟩;have M:=Hd Y;have e0:(y0:Int)<=64:=by have:=Eu (Oh (Og S)) (Ky T ((t.kids[0]?).getD 0)).sort;omega
  clear Y;have d9:(X.width:Int)<=64:=by omega
  rw[M.o] at I;have d3:(t.op==11)=false:=by rw[Jc];omega
  have e1:(t.op==12)=false:=by rw[Jc];omega
  have e2:(t.op==24)=false:=by rw[Jc];omega
  have f5:(t.op==42)=false:=by rw[Jc];omega
  have g6:(t.op==43)=true:=by simp[e7]
  clear e7
  rcases UH t.a (y0:Int) with⟨Z,q0⟩|⟨Z,q0⟩
  ·rcases Dd t.b t.a with⟨p1,q1⟩|⟨p1,q1⟩
   ·rcases Dd 0 t.b with⟨p2,q2⟩|⟨p2,q2⟩
    ·rcases Em (X.width:Int) (t.a - t.b+1) with⟨p3,q3⟩|⟨p3,q3⟩
     case' _=>
      have G:Hid (U7 (Ov (Oh (Og S))) num F (Oq F) T t=true):=by unfold Hid;rw[I.o,Jb Z,Jb p1,Jb p2,Jb p3];rfl
     rotate_left
     case' _=>
      have G:Hid (U7 (Ov (Oh (Og S))) num F (Oq F) T t=false):=by unfold Hid;rw[I.o,Jb Z,Jb p1,Jb p2,Jg p3];rfl
     rotate_left
     all_goals
      clear p3
      go_wp2
      go_region_held3 (fun W=>W.cell? ⟨w.heap.size,0,none⟩=some (.int .i64 t.op)/\W.cell? ⟨w.heap.size,1,none⟩=some (.string (Oo t.sort))/\W.cell? ⟨w.heap.size,2,none⟩=some (.string (Oo t.text))/\W.cell? ⟨w.heap.size,3,none⟩=some (.int .i64 t.a)/\W.cell? ⟨w.heap.size,4,none⟩=some (.int .i64 t.b)/\W.cell? ⟨w.heap.size,5,none⟩=some (.slice qk t.kids.length dk)) (first
       | assumption|go_keep) (first
       | (go_at_call 121;refine (HW.o 0 a7 _ O.drew _ (U.o.next (Jh _ _).drew) (by omega) (Below.keep (Jh _ _).drew)).mono ?_;rw[M.o];rintro e w5 ⟨rfl,A⟩;have j:Hid (O6 O w5 kb sb fb gb n2 S F T vS vF vT v5 1):=O6.after A (Jh _ _).drew;have b3:=J.o w5 (by obtain⟨n7,g7,-,-,h7⟩:=j.o;exact h7);clear A))
      all_goals (go_wp2;go_ret;exact⟨Oz (by rw[Ln (x:=t.a - t.b) (by omega) (by omega),Ln (by omega) (by omega),q3,G.o]),E.o _ 1 (by omega) j.o⟩)
    have G:Hid (U7 (Ov (Oh (Og S))) num F (Oq F) T t=false):=by unfold Hid;rw[I.o,Jb Z,Jb p1,Jg p2];rfl
    go_wp2_with fail
    refine wp_region_held_drew (S:=fun W=>W.cell? ⟨w.heap.size,0,none⟩=some (.int .i64 t.op)/\W.cell? ⟨w.heap.size,1,none⟩=some (.string (Oo t.sort))/\W.cell? ⟨w.heap.size,2,none⟩=some (.string (Oo t.text))/\W.cell? ⟨w.heap.size,3,none⟩=some (.int .i64 t.a)/\W.cell? ⟨w.heap.size,4,none⟩=some (.int .i64 t.b)/\W.cell? ⟨w.heap.size,5,none⟩=some (.slice qk t.kids.length dk)) (by kernel_rfl) (J.o O.drew (Bar.refl _ _).drew) (fun hHeld=>?_);refine tk 0 52 (v:=?_) rfl rfl (by kernel_rfl) (fun _ _ _ h=>h) (Or.inl ⟨by rfl,?_⟩) (by assumption) ?_
    rotate_left
    ·(intro w d;(try dsimp only at d);go_simp;(try with_reducible rfl))
    try simp only[Act.put,Ja,Je,Jd]
    refine tk 1 53 (v:=?_) rfl rfl (by kernel_rfl) (fun _ _ _ h=>h) (Or.inl ⟨by rfl,?_⟩) (by assumption) ?_
    rotate_left
    ·(intro w d;(try dsimp only at d);go_simp;(try with_reducible rfl))
    try simp only[Act.put,Ja,Je,Jd]
    refine tk 3 55 (v:=?_) rfl rfl (by kernel_rfl) (fun _ _ _ h=>h) (Or.inl ⟨by rfl,?_⟩) (by assumption) ?_
    rotate_left
    ·(intro w d;(try dsimp only at d);go_simp;(try with_reducible rfl))
    try simp only[Act.put,Ja,Je,Jd]
    refine tk 4 56 (v:=?_) rfl rfl (by kernel_rfl) (fun _ _ _ h=>h) (Or.inl ⟨by rfl,?_⟩) (by assumption) ?_
    rotate_left
    ·(intro w d;(try dsimp only at d);go_simp;(try with_reducible rfl))
    try simp only[Act.put,Ja,Je,Jd]
    refine wpAnyH_ready (rs:=[2]) (by kernel_rfl) (by simp) ?_;refine AllReadyH.cons rfl (fun K hK=>?_) AllReadyH.nil
    go_simp
    go_at_call 121
    refine (HW.o 0 a7 _ O.drew _ (U.o.next (Jh _ _).drew) (by omega) (Below.keep (Jh _ _).drew)).mono ?_;rw[M.o];rintro e w5 ⟨rfl,A⟩;have j:Hid (O6 O w5 kb sb fb gb n2 S F T vS vF vT v5 1):=O6.after A (Jh _ _).drew;have b3:=J.o w5 (by obtain⟨n7,g7,-,-,h7⟩:=j.o;exact h7);clear A
    go_wp2_with fail
    refine hK.o _ _ b3 (fun hHeld2=>?_);clear hK K
    try simp only[Act.put,Ja,Je,Jd]
    refine tk 5 57 (v:=?_) rfl rfl (by kernel_rfl) (fun _ _ _ h=>h) (Or.inl ⟨by rfl,?_⟩) (by assumption) ?_
    rotate_left
    ·(intro w d;(try dsimp only at d);go_simp;(try with_reducible rfl))
    try simp only[Act.put,Ja,Je,Jd]
    refine tk 6 58 (v:=?_) rfl rfl (by kernel_rfl) (fun _ _ _ h=>h) (Or.inl ⟨by rfl,?_⟩) (by assumption) ?_
    rotate_left
    ·(intro w d;(try dsimp only at d);go_simp;(try with_reducible rfl))
    try simp only[Act.put,Ja,Je,Jd]
    refine tk 7 59 (v:=?_) rfl rfl (by kernel_rfl) (fun _ _ _ h=>h) (Or.inl ⟨by rfl,?_⟩) (by assumption) ?_
    rotate_left
    ·(intro w d;(try dsimp only at d);go_simp;(try with_reducible rfl))
    try simp only[Act.put,Ja,Je,Jd]
    refine tk 8 60 (v:=?_) rfl rfl (by kernel_rfl) (fun _ _ _ h=>h) (Or.inl ⟨by rfl,?_⟩) (by assumption) ?_
    rotate_left
    ·(intro w d;(try dsimp only at d);go_simp;(try with_reducible rfl))
    try simp only[Act.put,Ja,Je,Jd]
    refine tk 9 61 (v:=?_) rfl rfl (by kernel_rfl) (fun _ _ _ h=>h) (Or.inl ⟨by rfl,?_⟩) (by assumption) ?_
    rotate_left
    ·(intro w d;(try dsimp only at d);go_simp;(try with_reducible rfl))
    try simp only[Act.put,Ja,Je,Jd]
    refine tk 10 62 (v:=?_) rfl rfl (by kernel_rfl) (fun _ _ _ h=>h) (Or.inl ⟨by rfl,?_⟩) (by assumption) ?_
    rotate_left
    ·(intro w d;(try dsimp only at d);go_simp;(try with_reducible rfl))
    try simp only[Act.put,Ja,Je,Jd]
    refine tk 11 63 (v:=?_) rfl rfl (by kernel_rfl) (fun _ _ _ h=>h) (Or.inl ⟨by rfl,?_⟩) (by assumption) ?_
    rotate_left
    ·(intro w d;(try dsimp only at d);go_simp;(try with_reducible rfl))
    try simp only[Act.put,Ja,Je,Jd]
    refine tk 12 64 (v:=?_) rfl rfl (by kernel_rfl) (fun _ _ _ h=>h) (Or.inl ⟨by rfl,?_⟩) (by assumption) ?_
    rotate_left
    ·(intro w d;(try dsimp only at d);go_simp;(try with_reducible rfl))
    try simp only[Act.put,Ja,Je,Jd]
    refine tk 13 65 (v:=?_) rfl rfl (by kernel_rfl) (fun _ _ _ h=>h) (Or.inl ⟨by rfl,?_⟩) (by assumption) ?_
    rotate_left
    ·(intro w d;(try dsimp only at d);go_simp;(try with_reducible rfl))
    try simp only[Act.put,Ja,Je,Jd]
    refine tk 14 66 (v:=?_) rfl rfl (by kernel_rfl) (fun _ _ _ h=>h) (Or.inl ⟨by rfl,?_⟩) (by assumption) ?_
    rotate_left
    ·(intro w d;(try dsimp only at d);go_simp;(try with_reducible rfl))
    try simp only[Act.put,Ja,Je,Jd]
    refine tk 15 67 (v:=?_) rfl rfl (by kernel_rfl) (fun _ _ _ h=>h) (Or.inl ⟨by rfl,?_⟩) (by assumption) ?_
    rotate_left
    ·(intro w d;(try dsimp only at d);go_simp;(try with_reducible rfl))
    try simp only[Act.put,Ja,Je,Jd]
    refine tk 16 68 (v:=?_) rfl rfl (by kernel_rfl) (fun _ _ _ h=>h) (Or.inl ⟨by rfl,?_⟩) (by assumption) ?_
    rotate_left
    ·(intro w d;(try dsimp only at d);go_simp;(try with_reducible rfl))
    try simp only[Act.put,Ja,Je,Jd]
    refine tk 17 69 (v:=?_) rfl rfl (by kernel_rfl) (fun _ _ _ h=>h) (Or.inl ⟨by rfl,?_⟩) (by assumption) ?_
    rotate_left
    ·(intro w d;(try dsimp only at d);go_simp;(try with_reducible rfl))
    try simp only[Act.put,Ja,Je,Jd]
    refine tk 18 70 (v:=?_) rfl rfl (by kernel_rfl) (fun _ _ _ h=>h) (Or.inl ⟨by rfl,?_⟩) (by assumption) ?_
    rotate_left
    ·(intro w d;(try dsimp only at d);go_simp;(try with_reducible rfl))
    try simp only[Act.put,Ja,Je,Jd]
    refine tk 19 71 (v:=undef) rfl rfl (by kernel_rfl) (fun _ _ _ h=>h) (Or.inr ⟨by rfl,rfl⟩) (by assumption) ?_
    try simp only[Act.put,Ja,Je,Jd]
    refine tk 20 72 (v:=undef) rfl rfl (by kernel_rfl) (fun _ _ _ h=>h) (Or.inr ⟨by rfl,rfl⟩) (by assumption) ?_
    try simp only[Act.put,Ja,Je,Jd]
    refine tk 21 73 (v:=undef) rfl rfl (by kernel_rfl) (fun _ _ _ h=>h) (Or.inr ⟨by rfl,rfl⟩) (by assumption) ?_
    try simp only[Act.put,Ja,Je,Jd]
    refine tk 22 74 (v:=undef) rfl rfl (by kernel_rfl) (fun _ _ _ h=>h) (Or.inr ⟨by rfl,rfl⟩) (by assumption) ?_
    try simp only[Act.put,Ja,Je,Jd]
    refine tk 23 75 (v:=undef) rfl rfl (by kernel_rfl) (fun _ _ _ h=>h) (Or.inr ⟨by rfl,rfl⟩) (by assumption) ?_
    try simp only[Act.put,Ja,Je,Jd]
    refine tk 24 76 (v:=undef) rfl rfl (by kernel_rfl) (fun _ _ _ h=>h) (Or.inr ⟨by rfl,rfl⟩) (by assumption) ?_
    try simp only[Act.put,Ja,Je,Jd]
    refine tk 25 77 (v:=undef) rfl rfl (by kernel_rfl) (fun _ _ _ h=>h) (Or.inr ⟨by rfl,rfl⟩) (by assumption) ?_
    try simp only[Act.put,Ja,Je,Jd]
    refine tk 26 78 (v:=undef) rfl rfl (by kernel_rfl) (fun _ _ _ h=>h) (Or.inr ⟨by rfl,rfl⟩) (by assumption) ?_
    try simp only[Act.put,Ja,Je,Jd]
    refine tk 27 79 (v:=?_) rfl rfl (by kernel_rfl) (fun _ _ _ h=>h) (Or.inl ⟨by rfl,?_⟩) (by assumption) ?_
    rotate_left
    ·(intro w d;(try dsimp only at d);go_simp;(try with_reducible rfl))
    try simp only[Act.put,Ja,Je,Jd]
    refine tk 28 4 (v:=?_) rfl rfl (by kernel_rfl) (fun _ _ _ h=>h) (Or.inl ⟨by rfl,?_⟩) (by assumption) ?_
    rotate_left
    ·(intro w d;(try dsimp only at d);go_simp;(try with_reducible rfl))
    try simp only[Act.put,Ja,Je,Jd]
    refine wpAnyH_done (by kernel_rfl) ?_ _
    go_wp2
    go_ret
    exact⟨Oz G.o.symm,E.o _ 1 (by omega) j.o⟩
   have G:Hid (U7 (Ov (Oh (Og S))) num F (Oq F) T t=false):=by unfold Hid;rw[I.o,Jb Z,Jg p1];rfl
   go_wp2_with fail
   refine wp_region_held_drew (S:=fun W=>W.cell? ⟨w.heap.size,0,none⟩=some (.int .i64 t.op)/\W.cell? ⟨w.heap.size,1,none⟩=some (.string (Oo t.sort))/\W.cell? ⟨w.heap.size,2,none⟩=some (.string (Oo t.text))/\W.cell? ⟨w.heap.size,3,none⟩=some (.int .i64 t.a)/\W.cell? ⟨w.heap.size,4,none⟩=some (.int .i64 t.b)/\W.cell? ⟨w.heap.size,5,none⟩=some (.slice qk t.kids.length dk)) (by kernel_rfl) (J.o O.drew (Bar.refl _ _).drew) (fun hHeld=>?_);refine tk 0 52 (v:=?_) rfl rfl (by kernel_rfl) (fun _ _ _ h=>h) (Or.inl ⟨by rfl,?_⟩) (by assumption) ?_
   rotate_left
   ·(intro w d;(try dsimp only at d);go_simp;(try with_reducible rfl))
   try simp only[Act.put,Ja,Je,Jd]
   refine tk 1 53 (v:=?_) rfl rfl (by kernel_rfl) (fun _ _ _ h=>h) (Or.inl ⟨by rfl,?_⟩) (by assumption) ?_
   rotate_left
   ·(intro w d;(try dsimp only at d);go_simp;(try with_reducible rfl))
   try simp only[Act.put,Ja,Je,Jd]
   refine tk 3 55 (v:=?_) rfl rfl (by kernel_rfl) (fun _ _ _ h=>h) (Or.inl ⟨by rfl,?_⟩) (by assumption) ?_
   rotate_left
   ·(intro w d;(try dsimp only at d);go_simp;(try with_reducible rfl))
   try simp only[Act.put,Ja,Je,Jd]
   refine tk 4 56 (v:=?_) rfl rfl (by kernel_rfl) (fun _ _ _ h=>h) (Or.inl ⟨by rfl,?_⟩) (by assumption) ?_
   rotate_left
   ·(intro w d;(try dsimp only at d);go_simp;(try with_reducible rfl))
   try simp only[Act.put,Ja,Je,Jd]
   refine wpAnyH_ready (rs:=[2]) (by kernel_rfl) (by simp) ?_;refine AllReadyH.cons rfl (fun K hK=>?_) AllReadyH.nil
   go_simp
   go_at_call 121
   refine (HW.o 0 a7 _ O.drew _ (U.o.next (Jh _ _).drew) (by omega) (Below.keep (Jh _ _).drew)).mono ?_;rw[M.o];rintro e w5 ⟨rfl,A⟩;have j:Hid (O6 O w5 kb sb fb gb n2 S F T vS vF vT v5 1):=O6.after A (Jh _ _).drew;have b3:=J.o w5 (by obtain⟨n7,g7,-,-,h7⟩:=j.o;exact h7);clear A
   go_wp2_with fail
   refine hK.o _ _ b3 (fun hHeld2=>?_);clear hK K
   try simp only[Act.put,Ja,Je,Jd]
   refine tk 5 57 (v:=?_) rfl rfl (by kernel_rfl) (fun _ _ _ h=>h) (Or.inl ⟨by rfl,?_⟩) (by assumption) ?_
   rotate_left
   ·(intro w d;(try dsimp only at d);go_simp;(try with_reducible rfl))
   try simp only[Act.put,Ja,Je,Jd]
   refine tk 6 58 (v:=?_) rfl rfl (by kernel_rfl) (fun _ _ _ h=>h) (Or.inl ⟨by rfl,?_⟩) (by assumption) ?_
   rotate_left
   ·(intro w d;(try dsimp only at d);go_simp;(try with_reducible rfl))
   try simp only[Act.put,Ja,Je,Jd]
   refine tk 7 59 (v:=?_) rfl rfl (by kernel_rfl) (fun _ _ _ h=>h) (Or.inl ⟨by rfl,?_⟩) (by assumption) ?_
   rotate_left
   ·(intro w d;(try dsimp only at d);go_simp;(try with_reducible rfl))
   try simp only[Act.put,Ja,Je,Jd]
   refine tk 8 60 (v:=?_) rfl rfl (by kernel_rfl) (fun _ _ _ h=>h) (Or.inl ⟨by rfl,?_⟩) (by assumption) ?_
   rotate_left
   ·(intro w d;(try dsimp only at d);go_simp;(try with_reducible rfl))
   try simp only[Act.put,Ja,Je,Jd]
   refine tk 9 61 (v:=?_) rfl rfl (by kernel_rfl) (fun _ _ _ h=>h) (Or.inl ⟨by rfl,?_⟩) (by assumption) ?_
   rotate_left
   ·(intro w d;(try dsimp only at d);go_simp;(try with_reducible rfl))
   try simp only[Act.put,Ja,Je,Jd]
   refine tk 10 62 (v:=?_) rfl rfl (by kernel_rfl) (fun _ _ _ h=>h) (Or.inl ⟨by rfl,?_⟩) (by assumption) ?_
   rotate_left
   ·(intro w d;(try dsimp only at d);go_simp;(try with_reducible rfl))
   try simp only[Act.put,Ja,Je,Jd]
   refine tk 11 63 (v:=?_) rfl rfl (by kernel_rfl) (fun _ _ _ h=>h) (Or.inl ⟨by rfl,?_⟩) (by assumption) ?_
   rotate_left
   ·(intro w d;(try dsimp only at d);go_simp;(try with_reducible rfl))
   try simp only[Act.put,Ja,Je,Jd]
   refine tk 12 64 (v:=?_) rfl rfl (by kernel_rfl) (fun _ _ _ h=>h) (Or.inl ⟨by rfl,?_⟩) (by assumption) ?_
   rotate_left
   ·(intro w d;(try dsimp only at d);go_simp;(try with_reducible rfl))
   try simp only[Act.put,Ja,Je,Jd]
   refine tk 13 65 (v:=?_) rfl rfl (by kernel_rfl) (fun _ _ _ h=>h) (Or.inl ⟨by rfl,?_⟩) (by assumption) ?_
   rotate_left
   ·(intro w d;(try dsimp only at d);go_simp;(try with_reducible rfl))
   try simp only[Act.put,Ja,Je,Jd]
   refine tk 14 66 (v:=undef) rfl rfl (by kernel_rfl) (fun _ _ _ h=>h) (Or.inr ⟨by rfl,rfl⟩) (by assumption) ?_
   try simp only[Act.put,Ja,Je,Jd]
   refine tk 15 67 (v:=undef) rfl rfl (by kernel_rfl) (fun _ _ _ h=>h) (Or.inr ⟨by rfl,rfl⟩) (by assumption) ?_
   try simp only[Act.put,Ja,Je,Jd]
   refine tk 16 68 (v:=undef) rfl rfl (by kernel_rfl) (fun _ _ _ h=>h) (Or.inr ⟨by rfl,rfl⟩) (by assumption) ?_
   try simp only[Act.put,Ja,Je,Jd]
   refine tk 17 69 (v:=?_) rfl rfl (by kernel_rfl) (fun _ _ _ h=>h) (Or.inl ⟨by rfl,?_⟩) (by assumption) ?_
   rotate_left
   ·(intro w d;(try dsimp only at d);go_simp;(try with_reducible rfl))
   try simp only[Act.put,Ja,Je,Jd]
   refine tk 18 70 (v:=?_) rfl rfl (by kernel_rfl) (fun _ _ _ h=>h) (Or.inl ⟨by rfl,?_⟩) (by assumption) ?_
   rotate_left
   ·(intro w d;(try dsimp only at d);go_simp;(try with_reducible rfl))
   try simp only[Act.put,Ja,Je,Jd]
   refine tk 19 71 (v:=undef) rfl rfl (by kernel_rfl) (fun _ _ _ h=>h) (Or.inr ⟨by rfl,rfl⟩) (by assumption) ?_
   try simp only[Act.put,Ja,Je,Jd]
   refine tk 20 72 (v:=undef) rfl rfl (by kernel_rfl) (fun _ _ _ h=>h) (Or.inr ⟨by rfl,rfl⟩) (by assumption) ?_
   try simp only[Act.put,Ja,Je,Jd]
   refine tk 21 73 (v:=undef) rfl rfl (by kernel_rfl) (fun _ _ _ h=>h) (Or.inr ⟨by rfl,rfl⟩) (by assumption) ?_
   try simp only[Act.put,Ja,Je,Jd]
   refine tk 22 74 (v:=undef) rfl rfl (by kernel_rfl) (fun _ _ _ h=>h) (Or.inr ⟨by rfl,rfl⟩) (by assumption) ?_
   try simp only[Act.put,Ja,Je,Jd]
   refine tk 23 75 (v:=undef) rfl rfl (by kernel_rfl) (fun _ _ _ h=>h) (Or.inr ⟨by rfl,rfl⟩) (by assumption) ?_
   try simp only[Act.put,Ja,Je,Jd]
   refine tk 24 76 (v:=undef) rfl rfl (by kernel_rfl) (fun _ _ _ h=>h) (Or.inr ⟨by rfl,rfl⟩) (by assumption) ?_
   try simp only[Act.put,Ja,Je,Jd]
   refine tk 25 77 (v:=undef) rfl rfl (by kernel_rfl) (fun _ _ _ h=>h) (Or.inr ⟨by rfl,rfl⟩) (by assumption) ?_
   try simp only[Act.put,Ja,Je,Jd]
   refine tk 26 78 (v:=undef) rfl rfl (by kernel_rfl) (fun _ _ _ h=>h) (Or.inr ⟨by rfl,rfl⟩) (by assumption) ?_
   try simp only[Act.put,Ja,Je,Jd]
   refine tk 27 79 (v:=?_) rfl rfl (by kernel_rfl) (fun _ _ _ h=>h) (Or.inl ⟨by rfl,?_⟩) (by assumption) ?_
   rotate_left
   ·(intro w d;(try dsimp only at d);go_simp;(try with_reducible rfl))
   try simp only[Act.put,Ja,Je,Jd]
   refine tk 28 4 (v:=?_) rfl rfl (by kernel_rfl) (fun _ _ _ h=>h) (Or.inl ⟨by rfl,?_⟩) (by assumption) ?_
   rotate_left
   ·(intro w d;(try dsimp only at d);go_simp;(try with_reducible rfl))
   try simp only[Act.put,Ja,Je,Jd]
   refine wpAnyH_done (by kernel_rfl) ?_ _
   go_wp2
   go_ret
   exact⟨Oz G.o.symm,E.o _ 1 (by omega) j.o⟩
  have G:Hid (U7 (Ov (Oh (Og S))) num F (Oq F) T t=false):=by unfold Hid;rw[I.o,Jg Z];rfl
  go_wp2_with fail
  refine wp_region_held_drew (S:=fun W=>W.cell? ⟨w.heap.size,0,none⟩=some (.int .i64 t.op)/\W.cell? ⟨w.heap.size,1,none⟩=some (.string (Oo t.sort))/\W.cell? ⟨w.heap.size,2,none⟩=some (.string (Oo t.text))/\W.cell? ⟨w.heap.size,3,none⟩=some (.int .i64 t.a)/\W.cell? ⟨w.heap.size,4,none⟩=some (.int .i64 t.b)/\W.cell? ⟨w.heap.size,5,none⟩=some (.slice qk t.kids.length dk)) (by kernel_rfl) (J.o O.drew (Bar.refl _ _).drew) (fun hHeld=>?_);refine tk 0 52 (v:=?_) rfl rfl (by kernel_rfl) (fun _ _ _ h=>h) (Or.inl ⟨by rfl,?_⟩) (by assumption) ?_
  rotate_left
  ·(intro w d;(try dsimp only at d);go_simp;(try with_reducible rfl))
  try simp only[Act.put,Ja,Je,Jd]
  refine tk 1 53 (v:=?_) rfl rfl (by kernel_rfl) (fun _ _ _ h=>h) (Or.inl ⟨by rfl,?_⟩) (by assumption) ?_
  rotate_left
  ·(intro w d;(try dsimp only at d);go_simp;(try with_reducible rfl))
  try simp only[Act.put,Ja,Je,Jd]
  refine tk 3 55 (v:=?_) rfl rfl (by kernel_rfl) (fun _ _ _ h=>h) (Or.inl ⟨by rfl,?_⟩) (by assumption) ?_
  rotate_left
  ·(intro w d;(try dsimp only at d);go_simp;(try with_reducible rfl))
  try simp only[Act.put,Ja,Je,Jd]
  refine tk 4 56 (v:=?_) rfl rfl (by kernel_rfl) (fun _ _ _ h=>h) (Or.inl ⟨by rfl,?_⟩) (by assumption) ?_
  rotate_left
  ·(intro w d;(try dsimp only at d);go_simp;(try with_reducible rfl))
  try simp only[Act.put,Ja,Je,Jd]
  refine wpAnyH_ready (rs:=[2]) (by kernel_rfl) (by simp) ?_;refine AllReadyH.cons rfl (fun K hK=>?_) AllReadyH.nil
  go_simp
  go_at_call 121
  refine (HW.o 0 a7 _ O.drew _ (U.o.next (Jh _ _).drew) (by omega) (Below.keep (Jh _ _).drew)).mono ?_;rw[M.o];rintro e w5 ⟨rfl,A⟩;have j:Hid (O6 O w5 kb sb fb gb n2 S F T vS vF vT v5 1):=O6.after A (Jh _ _).drew;have b3:=J.o w5 (by obtain⟨n7,g7,-,-,h7⟩:=j.o;exact h7);clear A
  go_wp2_with fail
  refine hK.o _ _ b3 (fun hHeld2=>?_);clear hK K
  try simp only[Act.put,Ja,Je,Jd]
  refine tk 5 57 (v:=?_) rfl rfl (by kernel_rfl) (fun _ _ _ h=>h) (Or.inl ⟨by rfl,?_⟩) (by assumption) ?_
  rotate_left
  ·(intro w d;(try dsimp only at d);go_simp;(try with_reducible rfl))
  try simp only[Act.put,Ja,Je,Jd]
  refine tk 6 58 (v:=?_) rfl rfl (by kernel_rfl) (fun _ _ _ h=>h) (Or.inl ⟨by rfl,?_⟩) (by assumption) ?_
  rotate_left
  ·(intro w d;(try dsimp only at d);go_simp;(try with_reducible rfl))
  try simp only[Act.put,Ja,Je,Jd]
  refine tk 7 59 (v:=undef) rfl rfl (by kernel_rfl) (fun _ _ _ h=>h) (Or.inr ⟨by rfl,rfl⟩) (by assumption) ?_
  try simp only[Act.put,Ja,Je,Jd]
  refine tk 8 60 (v:=undef) rfl rfl (by kernel_rfl) (fun _ _ _ h=>h) (Or.inr ⟨by rfl,rfl⟩) (by assumption) ?_
  try simp only[Act.put,Ja,Je,Jd]
  refine tk 9 61 (v:=undef) rfl rfl (by kernel_rfl) (fun _ _ _ h=>h) (Or.inr ⟨by rfl,rfl⟩) (by assumption) ?_
  try simp only[Act.put,Ja,Je,Jd]
  refine tk 10 62 (v:=undef) rfl rfl (by kernel_rfl) (fun _ _ _ h=>h) (Or.inr ⟨by rfl,rfl⟩) (by assumption) ?_
  try simp only[Act.put,Ja,Je,Jd]
  refine tk 11 63 (v:=undef) rfl rfl (by kernel_rfl) (fun _ _ _ h=>h) (Or.inr ⟨by rfl,rfl⟩) (by assumption) ?_
  try simp only[Act.put,Ja,Je,Jd]
  refine tk 12 64 (v:=?_) rfl rfl (by kernel_rfl) (fun _ _ _ h=>h) (Or.inl ⟨by rfl,?_⟩) (by assumption) ?_
  rotate_left
  ·(intro w d;(try dsimp only at d);go_simp;(try with_reducible rfl))
  try simp only[Act.put,Ja,Je,Jd]
  refine tk 13 65 (v:=?_) rfl rfl (by kernel_rfl) (fun _ _ _ h=>h) (Or.inl ⟨by rfl,?_⟩) (by assumption) ?_
  rotate_left
  ·(intro w d;(try dsimp only at d);go_simp;(try with_reducible rfl))
  try simp only[Act.put,Ja,Je,Jd]
  refine tk 14 66 (v:=undef) rfl rfl (by kernel_rfl) (fun _ _ _ h=>h) (Or.inr ⟨by rfl,rfl⟩) (by assumption) ?_
  try simp only[Act.put,Ja,Je,Jd]
  refine tk 15 67 (v:=undef) rfl rfl (by kernel_rfl) (fun _ _ _ h=>h) (Or.inr ⟨by rfl,rfl⟩) (by assumption) ?_
  try simp only[Act.put,Ja,Je,Jd]
  refine tk 16 68 (v:=undef) rfl rfl (by kernel_rfl) (fun _ _ _ h=>h) (Or.inr ⟨by rfl,rfl⟩) (by assumption) ?_
  try simp only[Act.put,Ja,Je,Jd]
  refine tk 17 69 (v:=?_) rfl rfl (by kernel_rfl) (fun _ _ _ h=>h) (Or.inl ⟨by rfl,?_⟩) (by assumption) ?_
  rotate_left
  ·(intro w d;(try dsimp only at d);go_simp;(try with_reducible rfl))
  try simp only[Act.put,Ja,Je,Jd]
  refine tk 18 70 (v:=?_) rfl rfl (by kernel_rfl) (fun _ _ _ h=>h) (Or.inl ⟨by rfl,?_⟩) (by assumption) ?_
  rotate_left
  ·(intro w d;(try dsimp only at d);go_simp;(try with_reducible rfl))
  try simp only[Act.put,Ja,Je,Jd]
  refine tk 19 71 (v:=undef) rfl rfl (by kernel_rfl) (fun _ _ _ h=>h) (Or.inr ⟨by rfl,rfl⟩) (by assumption) ?_
  try simp only[Act.put,Ja,Je,Jd]
  refine tk 20 72 (v:=undef) rfl rfl (by kernel_rfl) (fun _ _ _ h=>h) (Or.inr ⟨by rfl,rfl⟩) (by assumption) ?_
  try simp only[Act.put,Ja,Je,Jd]
  refine tk 21 73 (v:=undef) rfl rfl (by kernel_rfl) (fun _ _ _ h=>h) (Or.inr ⟨by rfl,rfl⟩) (by assumption) ?_
  try simp only[Act.put,Ja,Je,Jd]
  refine tk 22 74 (v:=undef) rfl rfl (by kernel_rfl) (fun _ _ _ h=>h) (Or.inr ⟨by rfl,rfl⟩) (by assumption) ?_
  try simp only[Act.put,Ja,Je,Jd]
  refine tk 23 75 (v:=undef) rfl rfl (by kernel_rfl) (fun _ _ _ h=>h) (Or.inr ⟨by rfl,rfl⟩) (by assumption) ?_
  try simp only[Act.put,Ja,Je,Jd]
  refine tk 24 76 (v:=undef) rfl rfl (by kernel_rfl) (fun _ _ _ h=>h) (Or.inr ⟨by rfl,rfl⟩) (by assumption) ?_
  try simp only[Act.put,Ja,Je,Jd]
  refine tk 25 77 (v:=undef) rfl rfl (by kernel_rfl) (fun _ _ _ h=>h) (Or.inr ⟨by rfl,rfl⟩) (by assumption) ?_
  try simp only[Act.put,Ja,Je,Jd]
  refine tk 26 78 (v:=undef) rfl rfl (by kernel_rfl) (fun _ _ _ h=>h) (Or.inr ⟨by rfl,rfl⟩) (by assumption) ?_
  try simp only[Act.put,Ja,Je,Jd]
  refine tk 27 79 (v:=?_) rfl rfl (by kernel_rfl) (fun _ _ _ h=>h) (Or.inl ⟨by rfl,?_⟩) (by assumption) ?_
  rotate_left
  ·(intro w d;(try dsimp only at d);go_simp;(try with_reducible rfl))
  try simp only[Act.put,Ja,Je,Jd]
  refine tk 28 4 (v:=?_) rfl rfl (by kernel_rfl) (fun _ _ _ h=>h) (Or.inl ⟨by rfl,?_⟩) (by assumption) ?_
  rotate_left
  ·(intro w d;(try dsimp only at d);go_simp;(try with_reducible rfl))
  try simp only[Act.put,Ja,Je,Jd]
  refine wpAnyH_done (by kernel_rfl) ?_ _
  go_wp2
  go_ret
  exact⟨Oz G.o.symm,E.o _ 1 (by omega) j.o⟩
 by_cases e8:t.op=44
 ·have I:Hid (U7 (Ov (Oh (Og S))) num F (Oq F) T t=(decide (1<=t.a)&&decide (t.a=(X.width:Int) - ((Ov (Oh (Og S)) (Ky T ((t.kids[0]?).getD 0)).sort).width:Int)))):=by unfold Hid U7;simp only;rw[if_neg (by omega),if_neg (by omega),if_neg (by omega),if_neg (by omega),if_neg (by omega),if_pos (by omega),d5.o]
  have a7:0<t.kids.length:=by have:=d4.o;rw[show Kh t.op=1 by rw[e8];rfl] at this;omega
  obtain⟨y0,Y⟩:∃ y,(Ov (Oh (Og S)) (Ky T ((t.kids[0]?).getD 0)).sort).width=y:=⟨_,rfl⟩;have M:=Hd Y;have e0:(y0:Int)<=64:=by have:=Eu (Oh (Og S)) (Ky T ((t.kids[0]?).getD 0)).sort;omega
  clear Y;have d9:(X.width:Int)<=64:=by omega
  rw[M.o] at I;have d3:(t.op==11)=false:=by rw[Jc];omega
  have e1:(t.op==12)=false:=by rw[Jc];omega
  have e2:(t.op==24)=false:=by rw[Jc];omega
  have f5:(t.op==42)=false:=by rw[Jc];omega
  have g6:(t.op==43)=false:=by rw[Jc];omega
  have i8:(t.op==44)=true:=by simp[e8]
  clear e8
  rcases Dd 1 t.a with⟨Z,q0⟩|⟨Z,q0⟩
  ·rcases Em t.a ((X.width:Int) - (y0:Int)) with⟨p1,q1⟩|⟨p1,q1⟩
   case' _=>
    have G:Hid (U7 (Ov (Oh (Og S))) num F (Oq F) T t=true):=by unfold Hid;rw[I.o,Jb Z,Jb p1];rfl
   rotate_left
   case' _=>
    have G:Hid (U7 (Ov (Oh (Og S))) num F (Oq F) T t=false):=by unfold Hid;rw[I.o,Jb Z,Jg p1];rfl
   rotate_left
   all_goals
    clear p1
    go_wp2
    go_region_held3 (fun W=>W.cell? ⟨w.heap.size,0,none⟩=some (.int .i64 t.op)/\W.cell? ⟨w.heap.size,1,none⟩=some (.string (Oo t.sort))/\W.cell? ⟨w.heap.size,2,none⟩=some (.string (Oo t.text))/\W.cell? ⟨w.heap.size,3,none⟩=some (.int .i64 t.a)/\W.cell? ⟨w.heap.size,4,none⟩=some (.int .i64 t.b)/\W.cell? ⟨w.heap.size,5,none⟩=some (.slice qk t.kids.length dk)) (first
     | assumption|go_keep) (first
     | (go_at_call 121;refine (HW.o 0 a7 _ O.drew _ (U.o.next (Jh _ _).drew) (by omega) (Below.keep (Jh _ _).drew)).mono ?_;rw[M.o];rintro e w5 ⟨rfl,A⟩;have j:Hid (O6 O w5 kb sb fb gb n2 S F T vS vF vT v5 1):=O6.after A (Jh _ _).drew;have b3:=J.o w5 (by obtain⟨n7,g7,-,-,h7⟩:=j.o;exact h7);clear A))
    all_goals (go_wp2;go_ret;exact⟨Oz (by rw[Ln (by omega) (by omega),q1,G.o]),E.o _ 1 (by omega) j.o⟩)
  have G:Hid (U7 (Ov (Oh (Og S))) num F (Oq F) T t=false):=by unfold Hid;rw[I.o,Jg Z];rfl
  go_wp2_with fail
  refine wp_region_held_drew (S:=fun W=>W.cell? ⟨w.heap.size,0,none⟩=some (.int .i64 t.op)/\W.cell? ⟨w.heap.size,1,none⟩=some (.string (Oo t.sort))/\W.cell? ⟨w.heap.size,2,none⟩=some (.string (Oo t.text))/\W.cell? ⟨w.heap.size,3,none⟩=some (.int .i64 t.a)/\W.cell? ⟨w.heap.size,4,none⟩=some (.int .i64 t.b)/\W.cell? ⟨w.heap.size,5,none⟩=some (.slice qk t.kids.length dk)) (by kernel_rfl) (J.o O.drew (Bar.refl _ _).drew) (fun hHeld=>?_);refine tk 0 83 (v:=?_) rfl rfl (by kernel_rfl) (fun _ _ _ h=>h) (Or.inl ⟨by rfl,?_⟩) (by assumption) ?_
  rotate_left
  ·(intro w d;(try dsimp only at d);go_simp;(try with_reducible rfl))
  try simp only[Act.put,Ja,Je,Jd]
  refine tk 1 84 (v:=?_) rfl rfl (by kernel_rfl) (fun _ _ _ h=>h) (Or.inl ⟨by rfl,?_⟩) (by assumption) ?_
  rotate_left
  ·(intro w d;(try dsimp only at d);go_simp;(try with_reducible rfl))
  try simp only[Act.put,Ja,Je,Jd]
  refine tk 2 85 (v:=?_) rfl rfl (by kernel_rfl) (fun _ _ _ h=>h) (Or.inl ⟨by rfl,?_⟩) (by assumption) ?_
  rotate_left
  ·(intro w d;(try dsimp only at d);go_simp;(try with_reducible rfl))
  try simp only[Act.put,Ja,Je,Jd]
  refine tk 3 86 (v:=?_) rfl rfl (by kernel_rfl) (fun _ _ _ h=>h) (Or.inl ⟨by rfl,?_⟩) (by assumption) ?_
  rotate_left
  ·(intro w d;(try dsimp only at d);go_simp;(try with_reducible rfl))
  try simp only[Act.put,Ja,Je,Jd]
  refine tk 4 87 (v:=undef) rfl rfl (by kernel_rfl) (fun _ _ _ h=>h) (Or.inr ⟨by rfl,rfl⟩) (by assumption) ?_
  try simp only[Act.put,Ja,Je,Jd]
  refine tk 5 88 (v:=undef) rfl rfl (by kernel_rfl) (fun _ _ _ h=>h) (Or.inr ⟨by rfl,rfl⟩) (by assumption) ?_
  try simp only[Act.put,Ja,Je,Jd]
  refine tk 6 89 (v:=undef) rfl rfl (by kernel_rfl) (fun _ _ _ h=>h) (Or.inr ⟨by rfl,rfl⟩) (by assumption) ?_
  try simp only[Act.put,Ja,Je,Jd]
  refine tk 7 90 (v:=undef) rfl rfl (by kernel_rfl) (fun _ _ _ h=>h) (Or.inr ⟨by rfl,rfl⟩) (by assumption) ?_
  try simp only[Act.put,Ja,Je,Jd]
  refine tk 8 91 (v:=undef) rfl rfl (by kernel_rfl) (fun _ _ _ h=>h) (Or.inr ⟨by rfl,rfl⟩) (by assumption) ?_
  try simp only[Act.put,Ja,Je,Jd]
  refine tk 9 92 (v:=undef) rfl rfl (by kernel_rfl) (fun _ _ _ h=>h) (Or.inr ⟨by rfl,rfl⟩) (by assumption) ?_
  try simp only[Act.put,Ja,Je,Jd]
  refine tk 10 93 (v:=undef) rfl rfl (by kernel_rfl) (fun _ _ _ h=>h) (Or.inr ⟨by rfl,rfl⟩) (by assumption) ?_
  try simp only[Act.put,Ja,Je,Jd]
  refine tk 11 94 (v:=undef) rfl rfl (by kernel_rfl) (fun _ _ _ h=>h) (Or.inr ⟨by rfl,rfl⟩) (by assumption) ?_
  try simp only[Act.put,Ja,Je,Jd]
  refine tk 12 95 (v:=?_) rfl rfl (by kernel_rfl) (fun _ _ _ h=>h) (Or.inl ⟨by rfl,?_⟩) (by assumption) ?_
  rotate_left
  ·(intro w d;(try dsimp only at d);go_simp;(try with_reducible rfl))
  try simp only[Act.put,Ja,Je,Jd]
  refine tk 13 4 (v:=?_) rfl rfl (by kernel_rfl) (fun _ _ _ h=>h) (Or.inl ⟨by rfl,?_⟩) (by assumption) ?_
  rotate_left
  ·(intro w d;(try dsimp only at d);go_simp;(try with_reducible rfl))
  try simp only[Act.put,Ja,Je,Jd]
  refine wpAnyH_done (by kernel_rfl) ?_ _
  go_wp2
  go_ret
  exact⟨Oz G.o.symm,V.o _ (Jh _ _).drew⟩
 by_cases e9:t.op=45
 ·have I:Hid (U7 (Ov (Oh (Og S))) num F (Oq F) T t=(decide (1<=t.a)&&decide (t.a=(X.width:Int) - ((Ov (Oh (Og S)) (Ky T ((t.kids[0]?).getD 0)).sort).width:Int)))):=by unfold Hid U7;simp only;rw[if_neg (by omega),if_neg (by omega),if_neg (by omega),if_neg (by omega),if_neg (by omega),if_pos (by omega),d5.o]
  have a7:0<t.kids.length:=by have:=d4.o;rw[show Kh t.op=1 by rw[e9];rfl] at this;omega
  obtain⟨y0,Y⟩:∃ y,(Ov (Oh (Og S)) (Ky T ((t.kids[0]?).getD 0)).sort).width=y:=⟨_,rfl⟩;have M:=Hd Y;have e0:(y0:Int)<=64:=by have:=Eu (Oh (Og S)) (Ky T ((t.kids[0]?).getD 0)).sort;omega
  clear Y;have d9:(X.width:Int)<=64:=by omega
  rw[M.o] at I;have d3:(t.op==11)=false:=by rw[Jc];omega
  have e1:(t.op==12)=false:=by rw[Jc];omega
  have e2:(t.op==24)=false:=by rw[Jc];omega
  have f5:(t.op==42)=false:=by rw[Jc];omega
  have g6:(t.op==43)=false:=by rw[Jc];omega
  have i8:(t.op==44)=false:=by rw[Jc];omega
  have k8:(t.op==45)=true:=by simp[e9]
  clear e9
  rcases Dd 1 t.a with⟨Z,q0⟩|⟨Z,q0⟩
  ·rcases Em t.a ((X.width:Int) - (y0:Int)) with⟨p1,q1⟩|⟨p1,q1⟩
   case' _=>
    have G:Hid (U7 (Ov (Oh (Og S))) num F (Oq F) T t=true):=by unfold Hid;rw[I.o,Jb Z,Jb p1];rfl
   rotate_left
   case' _=>
    have G:Hid (U7 (Ov (Oh (Og S))) num F (Oq F) T t=false):=by unfold Hid;rw[I.o,Jb Z,Jg p1];rfl
   rotate_left
   all_goals
    clear p1
    go_wp2
    go_region_held3 (fun W=>W.cell? ⟨w.heap.size,0,none⟩=some (.int .i64 t.op)/\W.cell? ⟨w.heap.size,1,none⟩=some (.string (Oo t.sort))/\W.cell? ⟨w.heap.size,2,none⟩=some (.string (Oo t.text))/\W.cell? ⟨w.heap.size,3,none⟩=some (.int .i64 t.a)/\W.cell? ⟨w.heap.size,4,none⟩=some (.int .i64 t.b)/\W.cell? ⟨w.heap.size,5,none⟩=some (.slice qk t.kids.length dk)) (first
     | assumption|go_keep) (first
     | (go_at_call 121;refine (HW.o 0 a7 _ O.drew _ (U.o.next (Jh _ _).drew) (by omega) (Below.keep (Jh _ _).drew)).mono ?_;rw[M.o];rintro e w5 ⟨rfl,A⟩;have j:Hid (O6 O w5 kb sb fb gb n2 S F T vS vF vT v5 1):=O6.after A (Jh _ _).drew;have b3:=J.o w5 (by obtain⟨n7,g7,-,-,h7⟩:=j.o;exact h7);clear A))
    all_goals (go_wp2;go_ret;exact⟨Oz (by rw[Ln (by omega) (by omega),q1,G.o]),E.o _ 1 (by omega) j.o⟩)
  have G:Hid (U7 (Ov (Oh (Og S))) num F (Oq F) T t=false):=by unfold Hid;rw[I.o,Jg Z];rfl
  go_wp2_with fail
  refine wp_region_held_drew (S:=fun W=>W.cell? ⟨w.heap.size,0,none⟩=some (.int .i64 t.op)/\W.cell? ⟨w.heap.size,1,none⟩=some (.string (Oo t.sort))/\W.cell? ⟨w.heap.size,2,none⟩=some (.string (Oo t.text))/\W.cell? ⟨w.heap.size,3,none⟩=some (.int .i64 t.a)/\W.cell? ⟨w.heap.size,4,none⟩=some (.int .i64 t.b)/\W.cell? ⟨w.heap.size,5,none⟩=some (.slice qk t.kids.length dk)) (by kernel_rfl) (J.o O.drew (Bar.refl _ _).drew) (fun hHeld=>?_);refine tk 0 83 (v:=?_) rfl rfl (by kernel_rfl) (fun _ _ _ h=>h) (Or.inl ⟨by rfl,?_⟩) (by assumption) ?_
  rotate_left
  ·(intro w d;(try dsimp only at d);go_simp;(try with_reducible rfl))
  try simp only[Act.put,Ja,Je,Jd]
  refine tk 1 84 (v:=?_) rfl rfl (by kernel_rfl) (fun _ _ _ h=>h) (Or.inl ⟨by rfl,?_⟩) (by assumption) ?_
  rotate_left
  ·(intro w d;(try dsimp only at d);go_simp;(try with_reducible rfl))
  try simp only[Act.put,Ja,Je,Jd]
  refine tk 2 85 (v:=?_) rfl rfl (by kernel_rfl) (fun _ _ _ h=>h) (Or.inl ⟨by rfl,?_⟩) (by assumption) ?_
  rotate_left
  ·(intro w d;(try dsimp only at d);go_simp;(try with_reducible rfl))
  try simp only[Act.put,Ja,Je,Jd]
  refine tk 3 86 (v:=?_) rfl rfl (by kernel_rfl) (fun _ _ _ h=>h) (Or.inl ⟨by rfl,?_⟩) (by assumption) ?_
  rotate_left
  ·(intro w d;(try dsimp only at d);go_simp;(try with_reducible rfl))
  try simp only[Act.put,Ja,Je,Jd]
  refine tk 4 87 (v:=undef) rfl rfl (by kernel_rfl) (fun _ _ _ h=>h) (Or.inr ⟨by rfl,rfl⟩) (by assumption) ?_
  try simp only[Act.put,Ja,Je,Jd]
  refine tk 5 88 (v:=undef) rfl rfl (by kernel_rfl) (fun _ _ _ h=>h) (Or.inr ⟨by rfl,rfl⟩) (by assumption) ?_
  try simp only[Act.put,Ja,Je,Jd]
  refine tk 6 89 (v:=undef) rfl rfl (by kernel_rfl) (fun _ _ _ h=>h) (Or.inr ⟨by rfl,rfl⟩) (by assumption) ?_
  try simp only[Act.put,Ja,Je,Jd]
  refine tk 7 90 (v:=undef) rfl rfl (by kernel_rfl) (fun _ _ _ h=>h) (Or.inr ⟨by rfl,rfl⟩) (by assumption) ?_
  try simp only[Act.put,Ja,Je,Jd]
  refine tk 8 91 (v:=undef) rfl rfl (by kernel_rfl) (fun _ _ _ h=>h) (Or.inr ⟨by rfl,rfl⟩) (by assumption) ?_
  try simp only[Act.put,Ja,Je,Jd]
  refine tk 9 92 (v:=undef) rfl rfl (by kernel_rfl) (fun _ _ _ h=>h) (Or.inr ⟨by rfl,rfl⟩) (by assumption) ?_
  try simp only[Act.put,Ja,Je,Jd]
  refine tk 10 93 (v:=undef) rfl rfl (by kernel_rfl) (fun _ _ _ h=>h) (Or.inr ⟨by rfl,rfl⟩) (by assumption) ?_
  try simp only[Act.put,Ja,Je,Jd]
  refine tk 11 94 (v:=undef) rfl rfl (by kernel_rfl) (fun _ _ _ h=>h) (Or.inr ⟨by rfl,rfl⟩) (by assumption) ?_
  try simp only[Act.put,Ja,Je,Jd]
  refine tk 12 95 (v:=?_) rfl rfl (by kernel_rfl) (fun _ _ _ h=>h) (Or.inl ⟨by rfl,?_⟩) (by assumption) ?_
  rotate_left
  ·(intro w d;(try dsimp only at d);go_simp;(try with_reducible rfl))
  try simp only[Act.put,Ja,Je,Jd]
  refine tk 13 4 (v:=?_) rfl rfl (by kernel_rfl) (fun _ _ _ h=>h) (Or.inl ⟨by rfl,?_⟩) (by assumption) ?_
  rotate_left
  ·(intro w d;(try dsimp only at d);go_simp;(try with_reducible rfl))
  try simp only[Act.put,Ja,Je,Jd]
  refine wpAnyH_done (by kernel_rfl) ?_ _
  go_wp2
  go_ret
  exact⟨Oz G.o.symm,V.o _ (Jh _ _).drew⟩
 have I:Hid (U7 (Ov (Oh (Og S))) num F (Oq F) T t=true):=by
  unfold Hid U7;simp only;rw[if_neg (by omega),if_neg (by omega),if_neg (by omega),if_neg (by omega),if_neg (by omega),if_neg (by omega)]
 have d3:(t.op==11)=false:=by rw[Jc];omega
 have e1:(t.op==12)=false:=by rw[Jc];omega
 have e2:(t.op==24)=false:=by rw[Jc];omega
 have f5:(t.op==42)=false:=by rw[Jc];omega
 have g6:(t.op==43)=false:=by rw[Jc];omega
 have i8:(t.op==44)=false:=by rw[Jc];omega
 have k8:(t.op==45)=false:=by rw[Jc];omega
 clear e6 d6 g1 d7 e7 e8 e9
 go_wp2
 go_ret
 exact⟨Oz I.o.symm,V.o _ (Jh _ _)⟩
end Go.Proofs.YtipgjenolpofpaaGreatDoor
