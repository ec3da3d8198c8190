import Derived.Test.YtfkagjelljnpdaaGreatDoorP21
set_option linter.all false
set_option maxRecDepth 100000
set_option maxHeartbeats 16000000
namespace Go.Proofs.YtfkagjelljnpdaaGreatDoor
open ChangeShapes WideShapes ChangeAt RowKit
variable {fuel:Nat}{v:Value}{w:World}
def Ek(S:List (List UInt8))(num:Tm->Bool)(F:List Fn)(T:List Tm):Bool:=decide (T.length<=3000)&&E8 S F&&(List.range T.length).all (fun i=>match T[i]? with|none=>true|some t=>Us S num F T i t&&decide (Ed (T.take i) t<0))
theorem MG{P:Program}{ops:Array Oper}{Q:Exit->Act->World->Prop}{md:Region.Mode}{S:World->Prop}{i d:Nat}{oi:Oper}{listed:Array Bool}{a:Act}(hi:ops[i]? = some oi)(hd:oi.dst=some d)
 (hs:Region.noSelect ops=true) (hf:Region.free md ops listed i=true) (hr:(Region.ready md ops listed).contains i=true)
 (hQ:∀c a w,Q (.panic c) (a.put (some d) v) w->Q (.panic c) a w) (hy:YieldsIf P ops S oi v a) (hS:S w)
 (h:wpAnyH P md ops Q S fuel (listed.setIfInBounds i true) (a.put (some d) v) w):wpAnyH P md ops Q S (fuel+1) listed a w:=by
 rw[<-hd]at hQ h;exact wpAnyH_take hi hs hf hr hQ hy hS h
theorem tk{P:Program}{ops:Array Oper}{Q:Exit->Act->World->Prop}{md:Region.Mode}{S:World->Prop}(i d:Nat){oi:Oper}{listed:Array Bool}{a:Act}(hi:ops[i]? = some oi)(hd:oi.dst=some d)
 (hc:(Region.noSelect ops&&(Region.free md ops listed i&&(Region.ready md ops listed).contains i))=true) (hQ:∀c a w,Q (.panic c) (a.put (some d) v) w->Q (.panic c) a w) (hy:YieldsIf P ops S oi v a) (hS:S w)
 (h:wpAnyH P md ops Q S fuel (listed.setIfInBounds i true) (a.put (some d) v) w):wpAnyH P md ops Q S (fuel+1) listed a w:=by
 rw[Jw,Jw]at hc;exact MG hi hd hc.1 hc.2.1 hc.2.2 hQ hy hS h
theorem Ph{P:Program}{ops:Array Oper}{Q:Exit->Act->World->Prop}{S:World->Prop}(n:Nat)(hn:ops.size=n){id:Nat}{a:Act}(hm:P.follows .mixedOrders=true)(hS:S w.drew)(h:S w.drew->wpAnyH P .any ops Q S n (Array.replicate ops.size false) a w.drew):(Code.region id ops true).wp P Q a w:=by
 subst hn;exact wp_region_held_drew hm hS h
theorem tkf{P:Program}{ops:Array Oper}{Q:Exit->Act->World->Prop}{md:Region.Mode}{S:World->Prop}(k m:Nat){oi:Oper}{listed:Array Bool}{a:Act}(hi:ops[k - fuel]? = some oi)(hd:oi.dst=some (m - fuel))
 (hc:(Region.noSelect ops&&(Region.free md ops listed (k - fuel)&&(Region.ready md ops listed).contains (k - fuel)))=true) (hQ:∀c a w,Q (.panic c) (a.put (some (m - fuel)) v) w->Q (.panic c) a w) (hy:YieldsIf P ops S oi v a) (hS:S w)
 (h:wpAnyH P md ops Q S fuel (listed.setIfInBounds (k - fuel) true) (a.put (some (m - fuel)) v) w):wpAnyH P md ops Q S (fuel+1) listed a w:=tk (k - fuel) (m - fuel) hi hd hc hQ hy hS h
theorem XB{S:List (List UInt8)}{num:Tm->Bool}{F:List Fn}{T:List Tm}{i:Nat}(h:i<T.length)(hb:(Us S num F T i T[i]&&decide (Ed (T.take i) T[i]<0))=false):Ek S num F T=false:=by
 unfold Ek;have:(List.range T.length).all (fun i=>match T[i]? with|none=>true|some t=>Us S num F T i t&&decide (Ed (T.take i) t<0))=false:=by
  rw[Yb];intro hh;have:=Jx.1 hh i (Yg.2 h);rw[Jg h]at this;simp only at this;rw[hb]at this
  cases this
 rw[this,Y6]
theorem EH{S:List (List UInt8)}{num:Tm->Bool}{F:List Fn}{T:List Tm}(h3:T.length<=3000)(hn:E8 S F=true)(h:∀i (h:i<T.length),(Us S num F T i T[i]&&decide (Ed (T.take i) T[i]<0))=true):Ek S num F T=true:=by
 unfold Ek;rw[Jb h3,hn,Yz,Yz,Jx];intro i j;have j:=Yg.1 j;rw[Jg j];exact h i j
theorem VR{p:Option Addr}{n c:Nat}{L:List Tm}(h:TermsAt w (.slice p n c) L){k:Nat}(hk:k<=L.length):TermsAt w (.slice p k c) (L.take k):=by
 obtain⟨K,G,e,J,q,j⟩:=h;simp only[Value.slice.injEq]at e;obtain⟨rfl,rfl,rfl⟩:=e;refine⟨p,c,by rw[J7,Yw hk],by rw[J7,Yw hk];omega,q,?_⟩
 rcases j with j|⟨b,e,hl,E⟩
 ·exact .inl (by rw[j,List.take_nil])
 exact .inr ⟨b,e,hl,fun i hi=>by
  rw[J7]at hi;have:=E i (by omega);rw[Z9];exact this⟩
end Go.Proofs.YtfkagjelljnpdaaGreatDoor
namespace Go.Proofs.YtfkagjelljnpdaaGreatDoor
open ChangeShapes WideShapes ChangeAt RowKit Proofs.Tryz
theorem Ow.comp{w w2 w':World}{kb sb fb gb n n2:Nat}{S:List (List UInt8)}{F:List Fn}{T:List Tm}{vS vF vT v5:Value}{m m2:Nat}(h2:n2<=n+m2)(hb:Bar gb w w2)(ha:Ow w2 w' kb sb fb gb n2 S F T vS vF vT v5 m):Ow w w' kb sb fb gb n S F T vS vF vT v5 (m2+m):=by
 obtain⟨n',h,E,j,q⟩:=ha;exact⟨n',h,by omega,j,hb.trans q⟩
theorem VA{x:Int}(h1 : -9223372036854775808<=x)(h2:x<=9223372036854775807):IntKind.i64.wrap x=x:=by
 unfold IntKind.wrap;simp only[IntKind.bits,IntKind.signed];simp;omega
theorem A8{l:List UInt8}:(Ud Gt l=l.length)↔l.all Gt=true:=by
 induction l with
 | nil=>simp[Ud]
 | cons c r ih=>
   have:=UL Gt r;unfold Ud
   cases h:Gt c
   ·simp[h]
   simp[h,ih]
theorem Bc{w:World}{kb sb fb gb n:Nat}{S:List (List UInt8)}{F:List Fn}{T:List Tm}{vS vF vT v5:Value}{g:List UInt8->Option SI}(h:BK w kb sb fb gb n S F T vS vF vT v5 g)(t:Tm)(vk:Value)(hk:IntsAt w vk t.kids)(hr:Di T.length t=true)(num:Tm->Bool)(hT:T.length<=1000000)(hl:t.kids.length<=1000000)(hF:F.length<=1000)(hz:∀u∈T,u.sort.length<=1048576)(hts:t.sort.length<=1048576)(htx:t.text.length<=1048576)(hn:n<=900000000)(hop:Uk t.op<=t.kids.length)
 (hnum:t.op=12->∀W,Bar gb w W->Calls prog 141 #[.string (Oo t.sort),.string (Oo t.text)] W fun e w'=>e=.returned (.bool (num t))/\Up W w') :
 Calls prog 126 #[.pointer (some ⟨kb,0,none⟩),G6 t vk] w fun e w'=>e=.returned (.bool (O6 (Ou (Oh (Og S))) num F (Ox F) T t))/\Ow w w' kb sb fb gb n S F T vS vF vT v5 3:=by
 obtain⟨qk,dk,rfl,j4,j5,h4⟩:=hk;have HH:=Hd h;have HI:Hid (IntsAt w (.slice qk t.kids.length dk) t.kids):=⟨qk,dk,rfl,j4,j5,h4⟩;have HR:=Hd hr;have HZ:=Hd hz;have g9:=Hd hnum;have d3:=Hd hop;clear h h4 hr hz hnum hop;have j3:(Oo t.sort).size<=1048576:=by show t.sort.toArray.size<=_;simpa using hts
 have l2:(Oo t.text).size<=1048576:=by show t.text.toArray.size<=_;simpa using htx
 have HB:Hid (Up w (w.alloc (.cells #[.int .i64 t.op,.string (Oo t.sort),.string (Oo t.text),.int .i64 t.a,.int .i64 t.b,.slice qk t.kids.length dk] 38))):=Oy _ _;have g8:Hid (Bx (w.alloc (.cells #[.int .i64 t.op,.string (Oo t.sort),.string (Oo t.text),.int .i64 t.a,.int .i64 t.b,.slice qk t.kids.length dk] 38)) w.heap.size [.int .i64 t.op,.string (Oo t.sort),.string (Oo t.text),.int .i64 t.a,.int .i64 t.b,.slice qk t.kids.length dk]):=Oq _ _ _;unfold G6
 go_in
 go_wp2_with fail
 refine(ask_sort (HH.o.next HB.o) (Oo t.sort) j3 (by omega)).mono ?_;rw[Ov];obtain⟨X,hX⟩:=O2 (Ou (Oh (Og S)) t.sort);have d4:=Hd hX;have l4:X.width<=64:=by rw[<-hX];exact En _ _
 rw[hX];clear hX;rintro e Z ⟨rfl,j0⟩;obtain⟨n2,g2,hn2,c8,b3⟩:=j0;have b7:=b3.keep (HH.o.next HB.o).km;have a1:=Hd c8;have g6:Hid (Bar gb w Z):=(Bar.of HB.o).trans b3;have i8:Hid (IntsAt Z (.slice qk t.kids.length dk) t.kids):=(HI.o.bl HB.o).keep b7;have c6:=g8.o;have V:Hid (∀W,Bar gb Z W->(W.cell? ⟨w.heap.size,0,none⟩=some (.int .i64 t.op)/\W.cell? ⟨w.heap.size,1,none⟩=some (.string (Oo t.sort))/\W.cell? ⟨w.heap.size,2,none⟩=some (.string (Oo t.text))/\W.cell? ⟨w.heap.size,3,none⟩=some (.int .i64 t.a)/\W.cell? ⟨w.heap.size,4,none⟩=some (.int .i64 t.b)/\W.cell? ⟨w.heap.size,5,none⟩=some (.slice qk t.kids.length dk))):=fun W hW=>by
  have d1:=hW.keep c8.km;exact⟨d1.cell _ _ (b7.cell _ _ (c6.cell 0)),d1.cell _ _ (b7.cell _ _ (c6.cell 1)),d1.cell _ _ (b7.cell _ _ (c6.cell 2)),d1.cell _ _ (b7.cell _ _ (c6.cell 3)),d1.cell _ _ (b7.cell _ _ (c6.cell 4)),d1.cell _ _ (b7.cell _ _ (c6.cell 5))⟩
 have O:Hid (∀W m,m<=2->Ow Z W kb sb fb gb n2 S F T vS vF vT v5 m->Ow w W kb sb fb gb n S F T vS vF vT v5 3):=fun W m hm ha=>(Ow.comp hn2 ((Bar.of HB.o).trans b3) ha).more (by omega);have a7:Hid (∀W,Up Z W->Ow w W kb sb fb gb n S F T vS vF vT v5 3):=fun W hW=>O.o W 0 (by omega) (Ow.of c8 hW 0);have j9:n2<=950000000:=by omega
 have d0:=V.o Z (Bar.refl _ _);have t0:=d0.1;have t1:=d0.2.1;have t2:=d0.2.2.1;have t3:=d0.2.2.2.1;have t4:=d0.2.2.2.2.1;have t5:=d0.2.2.2.2.2;clear b7 c8 b3 c6 g8 HB HI HH hn2;have hg:=(FY X Z).1;unfold Gu at hg ⊢;have HW:Hid (∀i (hi:i<t.kids.length) n W gg,BK W kb sb fb gb n S F T vS vF vT v5 gg->n<=1000000000->Keep Z W->Calls prog 144 #[.pointer (some ⟨kb,0,none⟩),.agg #[.int .i64 t.op,.string (Oo t.sort),.string (Oo t.text),.int .i64 t.a,.int .i64 t.b,.slice qk t.kids.length dk],.int .i64 (i:Nat)] W fun e w'=>e=.returned (.int .i64 ((Ou (Oh (Og S)) (tmAt T ((t.kids[i]?).getD 0)).sort).width:Nat))/\Ow W w' kb sb fb gb n S F T vS vF vT v5 1):=fun i hi n W gg hb hn hk=>Bb hb t _ (i8.o.keep hk) HR.o i hi hT hl HZ.o hn
 by_cases e5:t.op=11
 ·have R:Hid (O6 (Ou (Oh (Og S))) num F (Ox F) T t=Nx F (Ox F) t):=by unfold Hid O6;simp only;rw[if_pos e5]
  have z:(t.op==11)=true:=by simp[e5]
  clear e5
  go_wp2_with fail
  refine(YV kb fb F (Ox F) vF t qk dk _ a1.o.box.c7.2.1 a1.o.fr a1.o.box.c7.2.2.2.2.1 a1.o.fm (fun s i hi=>(J9.1 hi).1) hF htx hl a1.o.box.lt).mono ?_;generalize Nx F (Ox F) t=B at R;rintro e w3 ⟨rfl,d7⟩;have f5:=Hd d7;clear d7
  go_wp2
  go_ret
  exact⟨Oz R.o.symm,a7.o _ f5.o⟩
 by_cases d5:t.op=12
 ·have R:Hid (O6 (Ou (Oh (Og S))) num F (Ox F) T t=num t):=by unfold Hid O6;simp only;rw[if_neg (by omega),if_pos d5]
  have HC:=Hd (g9.o d5);have z:(t.op==12)=true:=by simp[d5]
  have d2:(t.op==11)=false:=by rw[Jc];omega
  clear d5
  go_wp2_with fail
  refine(HC.o _ g6.o).mono ?_;generalize num t=B at R;rintro e w3 ⟨rfl,d7⟩;have f5:=Hd d7;clear d7
  go_wp2
  go_ret
  exact⟨Oz R.o.symm,a7.o _ f5.o⟩
 by_cases f8:t.op=24
 ·have R:Hid (O6 (Ou (Oh (Og S))) num F (Ox F) T t=(decide (t.text.length=X.width)&&t.text.all Gt)):=by unfold Hid O6;simp only;rw[if_neg (by omega),if_neg (by omega),if_pos (by omega),d4.o]
  have d2:(t.op==11)=false:=by rw[Jc];omega
  have e0:(t.op==12)=false:=by rw[Jc];omega
  have e1:(t.op==24)=true:=by simp[f8]
  clear f8;have l3:(Oo t.text).size=t.text.length:=by show t.text.toArray.size=_;simp
  rcases Ki (t.text.length:Int) (X.width:Int)with⟨p0,q0⟩|⟨p0,q0⟩
  ·have HL:Hid (t.text.length=X.width):=by unfold Hid;omega
   have j6:(t.text.length==X.width)=true:=by rw[J2];omega
   have j2:(Oo t.text).size<=maxLen:=by unfold maxLen;omega
   clear p0
   go_wp2_with fail
   refine(GF (Oo t.text) _ j2).mono ?_;rw[Ov]
   rcases Ki ((Ud Gt t.text:Nat):Int) (X.width:Int)with⟨p1,q1⟩|⟨p1,q1⟩
   case' _=>
    have G:Hid (O6 (Ou (Oh (Og S))) num F (Ox F) T t=true):=by unfold Hid;rw[R.o,Jb HL.o,A8.1 (by have:=HL.o;omega)];rfl
   rotate_left
   case' _=>
    have G:Hid (O6 (Ou (Oh (Og S))) num F (Ox F) T t=false):=by
     unfold Hid;rw[R.o,Jb HL.o,Yz,Yb];intro h;exact p1 (by rw[A8.2 h,HL.o])
   rotate_left
   all_goals
    clear p1;generalize Ud Gt t.text=q at q1;rintro e w3 ⟨rfl,rfl⟩
    go_wp2
    go_ret
    exact⟨Oz G.o.symm,a7.o _ (Ji _ _)⟩
  have G:Hid (O6 (Ou (Oh (Og S))) num F (Ox F) T t=false):=by unfold Hid;rw[R.o,Jd (by omega)];rfl
  have j6:(t.text.length==X.width)=false:=by rw[Jc];omega
  clear p0
  go_wp2
  go_ret
  exact⟨Oz G.o.symm,a7.o _ (Ji _ _)⟩
 by_cases d6:t.op=42
 ·have R:Hid (O6 (Ou (Oh (Og S))) num F (Ox F) T t=decide (X.width=(Ou (Oh (Og S)) (tmAt T ((t.kids[0]?).getD 0)).sort).width+(Ou (Oh (Og S)) (tmAt T ((t.kids[1]?).getD 0)).sort).width)):=by unfold Hid O6;simp only;rw[if_neg (by omega),if_neg (by omega),if_neg (by omega),if_pos (by omega),d4.o]
  have b1:0<t.kids.length:=by have:=d3.o;rw[show Uk t.op=2 by rw[d6];rfl]at this;omega
  obtain⟨y0,a8⟩:∃y,(Ou (Oh (Og S)) (tmAt T ((t.kids[0]?).getD 0)).sort).width=y:=⟨_,rfl⟩;have Y:=Hd a8;have d9:(y0:Int)<=64:=by have:=En (Oh (Og S)) (tmAt T ((t.kids[0]?).getD 0)).sort;omega
  clear a8;have j1:1<t.kids.length:=by have:=d3.o;rw[show Uk t.op=2 by rw[d6];rfl]at this;omega
  obtain⟨y1,h3⟩:∃y,(Ou (Oh (Og S)) (tmAt T ((t.kids[1]?).getD 0)).sort).width=y:=⟨_,rfl⟩;have h0:=Hd h3;have k0:(y1:Int)<=64:=by have:=En (Oh (Og S)) (tmAt T ((t.kids[1]?).getD 0)).sort;omega
  clear h3;have d8:(X.width:Int)<=64:=by omega
  rw[Y.o,h0.o]at R;have d2:(t.op==11)=false:=by rw[Jc];omega
  have e0:(t.op==12)=false:=by rw[Jc];omega
  have e1:(t.op==24)=false:=by rw[Jc];omega
  have e9:(t.op==42)=true:=by simp[d6]
  clear d6
  rcases Ki (X.width:Int) ((y0:Int)+(y1:Int))with⟨p0,q0⟩|⟨p0,q0⟩
  case' _=>
   have G:Hid (O6 (Ou (Oh (Og S))) num F (Ox F) T t=true):=by unfold Hid;rw[R.o,Jb (by omega)]
  rotate_left
  case' _=>
   have G:Hid (O6 (Ou (Oh (Og S))) num F (Ox F) T t=false):=by unfold Hid;rw[R.o,Jd (by omega)]
  rotate_left
  all_goals
   clear p0
   go_wp2
   go_region_held3 (fun W=>W.cell? ⟨w.heap.size,0,none⟩=some (.int .i64 t.op)/\W.cell? ⟨w.heap.size,1,none⟩=some (.string (Oo t.sort))/\W.cell? ⟨w.heap.size,2,none⟩=some (.string (Oo t.text))/\W.cell? ⟨w.heap.size,3,none⟩=some (.int .i64 t.a)/\W.cell? ⟨w.heap.size,4,none⟩=some (.int .i64 t.b)/\W.cell? ⟨w.heap.size,5,none⟩=some (.slice qk t.kids.length dk)) (first
    | assumption|go_keep) (first
    | (go_at_call 144;obtain⟨n5,g5,h2,f1,b9⟩:=E.o;refine(HW.o 1 j1 _ w5 _ f1 (by omega) (b9.keep a1.o.km)).mono ?_;rw[h0.o];rintro e w6 ⟨rfl,h1⟩;have g4:Hid (Ow Z w6 kb sb fb gb n2 S F T vS vF vT v5 2):=Ow.comp h2 b9 h1;have l0:=V.o w6 (by obtain⟨n7,g7,-,-,h7⟩:=g4.o;exact h7);clear h1 h2 f1 b9)
    | (go_at_call 144;refine(HW.o 0 b1 _ Z.drew _ (a1.o.next (Ji _ _).drew) (by omega) (Below.keep (Ji _ _).drew)).mono ?_;rw[Y.o];rintro e w5 ⟨rfl,J⟩;have E:Hid (Ow Z w5 kb sb fb gb n2 S F T vS vF vT v5 1):=Ow.after J (Ji _ _).drew;have b2:=V.o w5 (by obtain⟨n7,g7,-,-,h7⟩:=E.o;exact h7);clear J))
   all_goals (go_wp2;go_ret;exact⟨Oz (by rw[VA (by omega) (by omega),q0,G.o]),O.o _ 2 (by omega) g4.o⟩)
 by_cases e6:t.op=43
 ·have R:Hid (O6 (Ou (Oh (Og S))) num F (Ox F) T t=(decide (t.a<((Ou (Oh (Og S)) (tmAt T ((t.kids[0]?).getD 0)).sort).width:Int))&&decide (t.b<=t.a)&&decide (0<=t.b)&&decide ((X.width:Int)=t.a - t.b+1))):=by unfold Hid O6;simp only;rw[if_neg (by omega),if_neg (by omega),if_neg (by omega),if_neg (by omega),if_pos (by omega),d4.o]
  have b1:0<t.kids.length:=by have:=d3.o;rw[show Uk t.op=1 by rw[e6];rfl]at this;omega
  obtain⟨y0,a8⟩:∃y,(Ou (Oh (Og S)) (tmAt T ((t.kids[0]?).getD 0)).sort).width=y:=⟨_,rfl⟩;have Y:=Hd a8;have d9:(y0:Int)<=64:=by have:=En (Oh (Og S)) (tmAt T ((t.kids[0]?).getD 0)).sort;omega
  clear a8;have d8:(X.width:Int)<=64:=by omega
  rw[Y.o]at R;have d2:(t.op==11)=false:=by rw[Jc];omega
  have e0:(t.op==12)=false:=by rw[Jc];omega
  have e1:(t.op==24)=false:=by rw[Jc];omega
  have e9:(t.op==42)=false:=by rw[Jc];omega
  have g1:(t.op==43)=true:=by simp[e6]
  clear e6
  rcases UN t.a (y0:Int)with⟨p0,q0⟩|⟨p0,q0⟩
  ·rcases Pf t.b t.a with⟨p1,q1⟩|⟨p1,q1⟩
   ·rcases Pf 0 t.b with⟨p2,q2⟩|⟨p2,q2⟩
    ·rcases Ki (X.width:Int) (t.a - t.b+1)with⟨p3,q3⟩|⟨p3,q3⟩
     case' _=>
      have G:Hid (O6 (Ou (Oh (Og S))) num F (Ox F) T t=true):=by unfold Hid;rw[R.o,Jb p0,Jb p1,Jb p2,Jb p3];rfl
     rotate_left
     case' _=>
      have G:Hid (O6 (Ou (Oh (Og S))) num F (Ox F) T t=false):=by unfold Hid;rw[R.o,Jb p0,Jb p1,Jb p2,Jd p3];rfl
     rotate_left
     all_goals
      clear p3
      go_wp2
      go_region_held3 (fun W=>W.cell? ⟨w.heap.size,0,none⟩=some (.int .i64 t.op)/\W.cell? ⟨w.heap.size,1,none⟩=some (.string (Oo t.sort))/\W.cell? ⟨w.heap.size,2,none⟩=some (.string (Oo t.text))/\W.cell? ⟨w.heap.size,3,none⟩=some (.int .i64 t.a)/\W.cell? ⟨w.heap.size,4,none⟩=some (.int .i64 t.b)/\W.cell? ⟨w.heap.size,5,none⟩=some (.slice qk t.kids.length dk)) (first
       | assumption|go_keep) (first
       | (go_at_call 144;refine(HW.o 0 b1 _ Z.drew _ (a1.o.next (Ji _ _).drew) (by omega) (Below.keep (Ji _ _).drew)).mono ?_;rw[Y.o];rintro e w5 ⟨rfl,J⟩;have E:Hid (Ow Z w5 kb sb fb gb n2 S F T vS vF vT v5 1):=Ow.after J (Ji _ _).drew;have b2:=V.o w5 (by obtain⟨n7,g7,-,-,h7⟩:=E.o;exact h7);clear J))
      all_goals (go_wp2;go_ret;exact⟨Oz (by rw[VA (x:=t.a - t.b) (by omega) (by omega),VA (by omega) (by omega),q3,G.o]),O.o _ 1 (by omega) E.o⟩)
    have G:Hid (O6 (Ou (Oh (Og S))) num F (Ox F) T t=false):=by unfold Hid;rw[R.o,Jb p0,Jb p1,Jd p2];rfl
    go_wp2_with fail
    refine Ph 29 rfl (S:=fun W=>W.cell? ⟨w.heap.size,0,none⟩=some (.int .i64 t.op)/\W.cell? ⟨w.heap.size,1,none⟩=some (.string (Oo t.sort))/\W.cell? ⟨w.heap.size,2,none⟩=some (.string (Oo t.text))/\W.cell? ⟨w.heap.size,3,none⟩=some (.int .i64 t.a)/\W.cell? ⟨w.heap.size,4,none⟩=some (.int .i64 t.b)/\W.cell? ⟨w.heap.size,5,none⟩=some (.slice qk t.kids.length dk)) (by kernel_rfl) (V.o Z.drew (Bar.refl _ _).drew) (fun hHeld=>?_);refine tk 0 52 (v:=?_) rfl rfl (by kernel_rfl) (fun _ _ _ h=>h) (Or.inl ⟨by rfl,?_⟩) (by assumption) ?_
    rotate_left
    ·(intro w j;(try dsimp only at j);go_simp;(try with_reducible rfl))
    try simp only[Act.put,Ja,Je,Jf]
    refine tk 1 53 (v:=?_) rfl rfl (by kernel_rfl) (fun _ _ _ h=>h) (Or.inl ⟨by rfl,?_⟩) (by assumption) ?_
    rotate_left
    ·(intro w j;(try dsimp only at j);go_simp;(try with_reducible rfl))
    try simp only[Act.put,Ja,Je,Jf]
    refine tk 3 55 (v:=?_) rfl rfl (by kernel_rfl) (fun _ _ _ h=>h) (Or.inl ⟨by rfl,?_⟩) (by assumption) ?_
    rotate_left
    ·(intro w j;(try dsimp only at j);go_simp;(try with_reducible rfl))
    try simp only[Act.put,Ja,Je,Jf]
    refine tk 4 56 (v:=?_) rfl rfl (by kernel_rfl) (fun _ _ _ h=>h) (Or.inl ⟨by rfl,?_⟩) (by assumption) ?_
    rotate_left
    ·(intro w j;(try dsimp only at j);go_simp;(try with_reducible rfl))
    try simp only[Act.put,Ja,Je,Jf]
    refine wpAnyH_ready (rs:=[2]) (by kernel_rfl) (by simp) ?_;refine AllReadyH.cons rfl (fun K hK=>?_) AllReadyH.nil
    go_simp
    go_at_call 144
    refine(HW.o 0 b1 _ Z.drew _ (a1.o.next (Ji _ _).drew) (by omega) (Below.keep (Ji _ _).drew)).mono ?_;rw[Y.o];rintro e w5 ⟨rfl,J⟩;have E:Hid (Ow Z w5 kb sb fb gb n2 S F T vS vF vT v5 1):=Ow.after J (Ji _ _).drew;have b2:=V.o w5 (by obtain⟨n7,g7,-,-,h7⟩:=E.o;exact h7);clear J
    go_wp2_with fail
    refine hK.out _ _ b2 (fun hHeld2=>?_);clear hK K
    try simp only[Act.put,Ja,Je,Jf]
    iterate 23 ((first|(refine tkf 28 80 (v:=?_) rfl rfl (by kernel_rfl) (fun _ _ _ h=>h) (Or.inl ⟨by rfl,?_⟩) (by assumption) ?_;rotate_left;(intro w j;(try dsimp only at j);go_simp;(try with_reducible rfl)))|refine tkf 28 80 (v:=undef) rfl rfl (by kernel_rfl) (fun _ _ _ h=>h) (Or.inr ⟨by rfl,rfl⟩) (by assumption) ?_);simp only[Nat.reduceSub,Act.put,Ja,Je,Jf])
    refine tk 28 4 (v:=?_) rfl rfl (by kernel_rfl) (fun _ _ _ h=>h) (Or.inl ⟨by rfl,?_⟩) (by assumption) ?_
    rotate_left
    ·(intro w j;(try dsimp only at j);go_simp;(try with_reducible rfl))
    try simp only[Act.put,Ja,Je,Jf]
    refine wpAnyH_done (by kernel_rfl) ?_ _
    go_wp2
    go_ret
    exact⟨Oz G.o.symm,O.o _ 1 (by omega) E.o⟩
   have G:Hid (O6 (Ou (Oh (Og S))) num F (Ox F) T t=false):=by unfold Hid;rw[R.o,Jb p0,Jd p1];rfl
   go_wp2_with fail
   refine Ph 29 rfl (S:=fun W=>W.cell? ⟨w.heap.size,0,none⟩=some (.int .i64 t.op)/\W.cell? ⟨w.heap.size,1,none⟩=some (.string (Oo t.sort))/\W.cell? ⟨w.heap.size,2,none⟩=some (.string (Oo t.text))/\W.cell? ⟨w.heap.size,3,none⟩=some (.int .i64 t.a)/\W.cell? ⟨w.heap.size,4,none⟩=some (.int .i64 t.b)/\W.cell? ⟨w.heap.size,5,none⟩=some (.slice qk t.kids.length dk)) (by kernel_rfl) (V.o Z.drew (Bar.refl _ _).drew) (fun hHeld=>?_);refine tk 0 52 (v:=?_) rfl rfl (by kernel_rfl) (fun _ _ _ h=>h) (Or.inl ⟨by rfl,?_⟩) (by assumption) ?_
   rotate_left
   ·(intro w j;(try dsimp only at j);go_simp;(try with_reducible rfl))
   try simp only[Act.put,Ja,Je,Jf]
   refine tk 1 53 (v:=?_) rfl rfl (by kernel_rfl) (fun _ _ _ h=>h) (Or.inl ⟨by rfl,?_⟩) (by assumption) ?_
   rotate_left
   ·(intro w j;(try dsimp only at j);go_simp;(try with_reducible rfl))
   try simp only[Act.put,Ja,Je,Jf]
   refine tk 3 55 (v:=?_) rfl rfl (by kernel_rfl) (fun _ _ _ h=>h) (Or.inl ⟨by rfl,?_⟩) (by assumption) ?_
   rotate_left
   ·(intro w j;(try dsimp only at j);go_simp;(try with_reducible rfl))
   try simp only[Act.put,Ja,Je,Jf]
   refine tk 4 56 (v:=?_) rfl rfl (by kernel_rfl) (fun _ _ _ h=>h) (Or.inl ⟨by rfl,?_⟩) (by assumption) ?_
   rotate_left
   ·(intro w j;(try dsimp only at j);go_simp;(try with_reducible rfl))
   try simp only[Act.put,Ja,Je,Jf]
   refine wpAnyH_ready (rs:=[2]) (by kernel_rfl) (by simp) ?_;refine AllReadyH.cons rfl (fun K hK=>?_) AllReadyH.nil
   go_simp
   go_at_call 144
   refine(HW.o 0 b1 _ Z.drew _ (a1.o.next (Ji _ _).drew) (by omega) (Below.keep (Ji _ _).drew)).mono ?_;rw[Y.o];rintro e w5 ⟨rfl,J⟩;have E:Hid (Ow Z w5 kb sb fb gb n2 S F T vS vF vT v5 1):=Ow.after J (Ji _ _).drew;have b2:=V.o w5 (by obtain⟨n7,g7,-,-,h7⟩:=E.o;exact h7);clear J
   go_wp2_with fail
   refine hK.out _ _ b2 (fun hHeld2=>?_);clear hK K
   try simp only[Act.put,Ja,Je,Jf]
   iterate 23 ((first|(refine tkf 28 80 (v:=?_) rfl rfl (by kernel_rfl) (fun _ _ _ h=>h) (Or.inl ⟨by rfl,?_⟩) (by assumption) ?_;rotate_left;(intro w j;(try dsimp only at j);go_simp;(try with_reducible rfl)))|refine tkf 28 80 (v:=undef) rfl rfl (by kernel_rfl) (fun _ _ _ h=>h) (Or.inr ⟨by rfl,rfl⟩) (by assumption) ?_);simp only[Nat.reduceSub,Act.put,Ja,Je,Jf])
   refine tk 28 4 (v:=?_) rfl rfl (by kernel_rfl) (fun _ _ _ h=>h) (Or.inl ⟨by rfl,?_⟩) (by assumption) ?_
   rotate_left
   ·(intro w j;(try dsimp only at j);go_simp;(try with_reducible rfl))
   try simp only[Act.put,Ja,Je,Jf]
   refine wpAnyH_done (by kernel_rfl) ?_ _
   go_wp2
   go_ret
   exact⟨Oz G.o.symm,O.o _ 1 (by omega) E.o⟩
  have G:Hid (O6 (Ou (Oh (Og S))) num F (Ox F) T t=false):=by unfold Hid;rw[R.o,Jd p0];rfl
  go_wp2_with fail
  refine Ph 29 rfl (S:=fun W=>W.cell? ⟨w.heap.size,0,none⟩=some (.int .i64 t.op)/\W.cell? ⟨w.heap.size,1,none⟩=some (.string (Oo t.sort))/\W.cell? ⟨w.heap.size,2,none⟩=some (.string (Oo t.text))/\W.cell? ⟨w.heap.size,3,none⟩=some (.int .i64 t.a)/\W.cell? ⟨w.heap.size,4,none⟩=some (.int .i64 t.b)/\W.cell? ⟨w.heap.size,5,none⟩=some (.slice qk t.kids.length dk)) (by kernel_rfl) (V.o Z.drew (Bar.refl _ _).drew) (fun hHeld=>?_);refine tk 0 52 (v:=?_) rfl rfl (by kernel_rfl) (fun _ _ _ h=>h) (Or.inl ⟨by rfl,?_⟩) (by assumption) ?_
  rotate_left
  ·(intro w j;(try dsimp only at j);go_simp;(try with_reducible rfl))
  try simp only[Act.put,Ja,Je,Jf]
  refine tk 1 53 (v:=?_) rfl rfl (by kernel_rfl) (fun _ _ _ h=>h) (Or.inl ⟨by rfl,?_⟩) (by assumption) ?_
  rotate_left
  ·(intro w j;(try dsimp only at j);go_simp;(try with_reducible rfl))
  try simp only[Act.put,Ja,Je,Jf]
  refine tk 3 55 (v:=?_) rfl rfl (by kernel_rfl) (fun _ _ _ h=>h) (Or.inl ⟨by rfl,?_⟩) (by assumption) ?_
  rotate_left
  ·(intro w j;(try dsimp only at j);go_simp;(try with_reducible rfl))
  try simp only[Act.put,Ja,Je,Jf]
  refine tk 4 56 (v:=?_) rfl rfl (by kernel_rfl) (fun _ _ _ h=>h) (Or.inl ⟨by rfl,?_⟩) (by assumption) ?_
  rotate_left
  ·(intro w j;(try dsimp only at j);go_simp;(try with_reducible rfl))
  try simp only[Act.put,Ja,Je,Jf]
  refine wpAnyH_ready (rs:=[2]) (by kernel_rfl) (by simp) ?_;refine AllReadyH.cons rfl (fun K hK=>?_) AllReadyH.nil
  go_simp
  go_at_call 144
  refine(HW.o 0 b1 _ Z.drew _ (a1.o.next (Ji _ _).drew) (by omega) (Below.keep (Ji _ _).drew)).mono ?_;rw[Y.o];rintro e w5 ⟨rfl,J⟩;have E:Hid (Ow Z w5 kb sb fb gb n2 S F T vS vF vT v5 1):=Ow.after J (Ji _ _).drew;have b2:=V.o w5 (by obtain⟨n7,g7,-,-,h7⟩:=E.o;exact h7);clear J
  go_wp2_with fail
  refine hK.out _ _ b2 (fun hHeld2=>?_);clear hK K
  try simp only[Act.put,Ja,Je,Jf]
  iterate 23 ((first|(refine tkf 28 80 (v:=?_) rfl rfl (by kernel_rfl) (fun _ _ _ h=>h) (Or.inl ⟨by rfl,?_⟩) (by assumption) ?_;rotate_left;(intro w j;(try dsimp only at j);go_simp;(try with_reducible rfl)))|refine tkf 28 80 (v:=undef) rfl rfl (by kernel_rfl) (fun _ _ _ h=>h) (Or.inr ⟨by rfl,rfl⟩) (by assumption) ?_);simp only[Nat.reduceSub,Act.put,Ja,Je,Jf])
  refine tk 28 4 (v:=?_) rfl rfl (by kernel_rfl) (fun _ _ _ h=>h) (Or.inl ⟨by rfl,?_⟩) (by assumption) ?_
  rotate_left
  ·(intro w j;(try dsimp only at j);go_simp;(try with_reducible rfl))
  try simp only[Act.put,Ja,Je,Jf]
  refine wpAnyH_done (by kernel_rfl) ?_ _
  go_wp2
  go_ret
  exact⟨Oz G.o.symm,O.o _ 1 (by omega) E.o⟩
 by_cases e7:t.op=44
 ·have R:Hid (O6 (Ou (Oh (Og S))) num F (Ox F) T t=(decide (1<=t.a)&&decide (t.a=(X.width:Int) - ((Ou (Oh (Og S)) (tmAt T ((t.kids[0]?).getD 0)).sort).width:Int)))):=by unfold Hid O6;simp only;rw[if_neg (by omega),if_neg (by omega),if_neg (by omega),if_neg (by omega),if_neg (by omega),if_pos (by omega),d4.o]
  have b1:0<t.kids.length:=by have:=d3.o;rw[show Uk t.op=1 by rw[e7];rfl]at this;omega
  obtain⟨y0,a8⟩:∃y,(Ou (Oh (Og S)) (tmAt T ((t.kids[0]?).getD 0)).sort).width=y:=⟨_,rfl⟩;have Y:=Hd a8;have d9:(y0:Int)<=64:=by have:=En (Oh (Og S)) (tmAt T ((t.kids[0]?).getD 0)).sort;omega
  clear a8;have d8:(X.width:Int)<=64:=by omega
  rw[Y.o]at R;have d2:(t.op==11)=false:=by rw[Jc];omega
  have e0:(t.op==12)=false:=by rw[Jc];omega
  have e1:(t.op==24)=false:=by rw[Jc];omega
  have e9:(t.op==42)=false:=by rw[Jc];omega
  have g1:(t.op==43)=false:=by rw[Jc];omega
  have h5:(t.op==44)=true:=by simp[e7]
  clear e7
  rcases Pf 1 t.a with⟨p0,q0⟩|⟨p0,q0⟩
  ·rcases Ki t.a ((X.width:Int) - (y0:Int))with⟨p1,q1⟩|⟨p1,q1⟩
   case' _=>
    have G:Hid (O6 (Ou (Oh (Og S))) num F (Ox F) T t=true):=by unfold Hid;rw[R.o,Jb p0,Jb p1];rfl
   rotate_left
   case' _=>
    have G:Hid (O6 (Ou (Oh (Og S))) num F (Ox F) T t=false):=by unfold Hid;rw[R.o,Jb p0,Jd p1];rfl
   rotate_left
   all_goals
    clear p1
    go_wp2
    go_region_held3 (fun W=>W.cell? ⟨w.heap.size,0,none⟩=some (.int .i64 t.op)/\W.cell? ⟨w.heap.size,1,none⟩=some (.string (Oo t.sort))/\W.cell? ⟨w.heap.size,2,none⟩=some (.string (Oo t.text))/\W.cell? ⟨w.heap.size,3,none⟩=some (.int .i64 t.a)/\W.cell? ⟨w.heap.size,4,none⟩=some (.int .i64 t.b)/\W.cell? ⟨w.heap.size,5,none⟩=some (.slice qk t.kids.length dk)) (first
     | assumption|go_keep) (first
     | (go_at_call 144;refine(HW.o 0 b1 _ Z.drew _ (a1.o.next (Ji _ _).drew) (by omega) (Below.keep (Ji _ _).drew)).mono ?_;rw[Y.o];rintro e w5 ⟨rfl,J⟩;have E:Hid (Ow Z w5 kb sb fb gb n2 S F T vS vF vT v5 1):=Ow.after J (Ji _ _).drew;have b2:=V.o w5 (by obtain⟨n7,g7,-,-,h7⟩:=E.o;exact h7);clear J))
    all_goals (go_wp2;go_ret;exact⟨Oz (by rw[VA (by omega) (by omega),q1,G.o]),O.o _ 1 (by omega) E.o⟩)
  have G:Hid (O6 (Ou (Oh (Og S))) num F (Ox F) T t=false):=by unfold Hid;rw[R.o,Jd p0];rfl
  go_wp2_with fail
  refine Ph 14 rfl (S:=fun W=>W.cell? ⟨w.heap.size,0,none⟩=some (.int .i64 t.op)/\W.cell? ⟨w.heap.size,1,none⟩=some (.string (Oo t.sort))/\W.cell? ⟨w.heap.size,2,none⟩=some (.string (Oo t.text))/\W.cell? ⟨w.heap.size,3,none⟩=some (.int .i64 t.a)/\W.cell? ⟨w.heap.size,4,none⟩=some (.int .i64 t.b)/\W.cell? ⟨w.heap.size,5,none⟩=some (.slice qk t.kids.length dk)) (by kernel_rfl) (V.o Z.drew (Bar.refl _ _).drew) (fun hHeld=>?_)
  iterate 13 ((first|(refine tkf 13 96 (v:=?_) rfl rfl (by kernel_rfl) (fun _ _ _ h=>h) (Or.inl ⟨by rfl,?_⟩) (by assumption) ?_;rotate_left;(intro w j;(try dsimp only at j);go_simp;(try with_reducible rfl)))|refine tkf 13 96 (v:=undef) rfl rfl (by kernel_rfl) (fun _ _ _ h=>h) (Or.inr ⟨by rfl,rfl⟩) (by assumption) ?_);simp only[Nat.reduceSub,Act.put,Ja,Je,Jf])
  refine tk 13 4 (v:=?_) rfl rfl (by kernel_rfl) (fun _ _ _ h=>h) (Or.inl ⟨by rfl,?_⟩) (by assumption) ?_
  rotate_left
  ·(intro w j;(try dsimp only at j);go_simp;(try with_reducible rfl))
  try simp only[Act.put,Ja,Je,Jf]
  refine wpAnyH_done (by kernel_rfl) ?_ _
  go_wp2
  go_ret
  exact⟨Oz G.o.symm,a7.o _ (Ji _ _).drew⟩
 by_cases e8:t.op=45
 ·have R:Hid (O6 (Ou (Oh (Og S))) num F (Ox F) T t=(decide (1<=t.a)&&decide (t.a=(X.width:Int) - ((Ou (Oh (Og S)) (tmAt T ((t.kids[0]?).getD 0)).sort).width:Int)))):=by unfold Hid O6;simp only;rw[if_neg (by omega),if_neg (by omega),if_neg (by omega),if_neg (by omega),if_neg (by omega),if_pos (by omega),d4.o]
  have b1:0<t.kids.length:=by have:=d3.o;rw[show Uk t.op=1 by rw[e8];rfl]at this;omega
  obtain⟨y0,a8⟩:∃y,(Ou (Oh (Og S)) (tmAt T ((t.kids[0]?).getD 0)).sort).width=y:=⟨_,rfl⟩;have Y:=Hd a8;have d9:(y0:Int)<=64:=by have:=En (Oh (Og S)) (tmAt T ((t.kids[0]?).getD 0)).sort;omega
  clear a8;have d8:(X.width:Int)<=64:=by omega
  rw[Y.o]at R;have d2:(t.op==11)=false:=by rw[Jc];omega
  have e0:(t.op==12)=false:=by rw[Jc];omega
  have e1:(t.op==24)=false:=by rw[Jc];omega
  have e9:(t.op==42)=false:=by rw[Jc];omega
  have g1:(t.op==43)=false:=by rw[Jc];omega
  have h5:(t.op==44)=false:=by rw[Jc];omega
  have j7:(t.op==45)=true:=by simp[e8]
  clear e8
  rcases Pf 1 t.a with⟨p0,q0⟩|⟨p0,q0⟩
  ·rcases Ki t.a ((X.width:Int) - (y0:Int))with⟨p1,q1⟩|⟨p1,q1⟩
   case' _=>
    have G:Hid (O6 (Ou (Oh (Og S))) num F (Ox F) T t=true):=by unfold Hid;rw[R.o,Jb p0,Jb p1];rfl
   rotate_left
   case' _=>
    have G:Hid (O6 (Ou (Oh (Og S))) num F (Ox F) T t=false):=by unfold Hid;rw[R.o,Jb p0,Jd p1];rfl
   rotate_left
   all_goals
    clear p1
    go_wp2
    go_region_held3 (fun W=>W.cell? ⟨w.heap.size,0,none⟩=some (.int .i64 t.op)/\W.cell? ⟨w.heap.size,1,none⟩=some (.string (Oo t.sort))/\W.cell? ⟨w.heap.size,2,none⟩=some (.string (Oo t.text))/\W.cell? ⟨w.heap.size,3,none⟩=some (.int .i64 t.a)/\W.cell? ⟨w.heap.size,4,none⟩=some (.int .i64 t.b)/\W.cell? ⟨w.heap.size,5,none⟩=some (.slice qk t.kids.length dk)) (first
     | assumption|go_keep) (first
     | (go_at_call 144;refine(HW.o 0 b1 _ Z.drew _ (a1.o.next (Ji _ _).drew) (by omega) (Below.keep (Ji _ _).drew)).mono ?_;rw[Y.o];rintro e w5 ⟨rfl,J⟩;have E:Hid (Ow Z w5 kb sb fb gb n2 S F T vS vF vT v5 1):=Ow.after J (Ji _ _).drew;have b2:=V.o w5 (by obtain⟨n7,g7,-,-,h7⟩:=E.o;exact h7);clear J))
    all_goals (go_wp2;go_ret;exact⟨Oz (by rw[VA (by omega) (by omega),q1,G.o]),O.o _ 1 (by omega) E.o⟩)
  have G:Hid (O6 (Ou (Oh (Og S))) num F (Ox F) T t=false):=by unfold Hid;rw[R.o,Jd p0];rfl
  go_wp2_with fail
  refine Ph 14 rfl (S:=fun W=>W.cell? ⟨w.heap.size,0,none⟩=some (.int .i64 t.op)/\W.cell? ⟨w.heap.size,1,none⟩=some (.string (Oo t.sort))/\W.cell? ⟨w.heap.size,2,none⟩=some (.string (Oo t.text))/\W.cell? ⟨w.heap.size,3,none⟩=some (.int .i64 t.a)/\W.cell? ⟨w.heap.size,4,none⟩=some (.int .i64 t.b)/\W.cell? ⟨w.heap.size,5,none⟩=some (.slice qk t.kids.length dk)) (by kernel_rfl) (V.o Z.drew (Bar.refl _ _).drew) (fun hHeld=>?_)
  iterate 13 ((first|(refine tkf 13 96 (v:=?_) rfl rfl (by kernel_rfl) (fun _ _ _ h=>h) (Or.inl ⟨by rfl,?_⟩) (by assumption) ?_;rotate_left;(intro w j;(try dsimp only at j);go_simp;(try with_reducible rfl)))|refine tkf 13 96 (v:=undef) rfl rfl (by kernel_rfl) (fun _ _ _ h=>h) (Or.inr ⟨by rfl,rfl⟩) (by assumption) ?_);simp only[Nat.reduceSub,Act.put,Ja,Je,Jf])
  refine tk 13 4 (v:=?_) rfl rfl (by kernel_rfl) (fun _ _ _ h=>h) (Or.inl ⟨by rfl,?_⟩) (by assumption) ?_
  rotate_left
  ·(intro w j;(try dsimp only at j);go_simp;(try with_reducible rfl))
  try simp only[Act.put,Ja,Je,Jf]
  refine wpAnyH_done (by kernel_rfl) ?_ _
  go_wp2
  go_ret
  exact⟨Oz G.o.symm,a7.o _ (Ji _ _).drew⟩
 have R:Hid (O6 (Ou (Oh (Og S))) num F (Ox F) T t=true):=by
  unfold Hid O6;simp only;rw[if_neg (by omega),if_neg (by omega),if_neg (by omega),if_neg (by omega),if_neg (by omega),if_neg (by omega)]
 have d2:(t.op==11)=false:=by rw[Jc];omega
 have e0:(t.op==12)=false:=by rw[Jc];omega
 have e1:(t.op==24)=false:=by rw[Jc];omega
 have e9:(t.op==42)=false:=by rw[Jc];omega
 have g1:(t.op==43)=false:=by rw[Jc];omega
 have h5:(t.op==44)=false:=by rw[Jc];omega
 have j7:(t.op==45)=false:=by rw[Jc];omega
 clear e5 d5 f8 d6 e6 e7 e8
 go_wp2
 go_ret
 exact⟨Oz R.o.symm,a7.o _ (Ji _ _)⟩
end Go.Proofs.YtfkagjelljnpdaaGreatDoor
