import Derived.Test.YtnhbmpnhijgpmaaGreatDoorPlusAp
import Derived.Test.YtnhbmpnhijgpmaaGreatDoorU1p
import Derived.Deep.QuietTactic
import Derived.BigQuiet
import Derived.Laws.Bits64b
import Derived.Test.YtnhbmpnhijgpmaaGreatDoorM8p
import Derived.Test.YtnhbmpnhijgpmaaGreatDoorU5p
import Derived.Test.YtnhbmpnhijgpmaaGreatDoorU4p
import Derived.Deep.RegionHeld3
set_option maxRecDepth 100000
set_option maxHeartbeats 4000000
namespace Go.Proofs.YtnhbmpnhijgpmaaGreatDoor
open Go.ChangeShapes Go.WideShapes Go.ChangeAt Go.RowKit
structure Bar (g:Nat) (w w':World):Prop where
 os:w'.os=w.os
 tape:w'.tape=w.tape
 output:w'.output=w.output
 size:w.heap.size≤w'.heap.size
 block:∀ k,k<w.heap.size→k≠g→w'.heap[k]? = w.heap[k]?
theorem Bar.refl (g:Nat) (w:World):Bar g w w:=⟨rfl,rfl,rfl,leR,fun _ _ _=>rfl⟩
theorem Bar.trans {g:Nat} {a b c:World} (h:Bar g a b) (k:Bar g b c):Bar g a c:=
 ⟨k.os.trans h.os,k.tape.trans h.tape,k.output.trans h.output,Nat.le_trans h.size k.size,fun i hi hg=>(k.block i (Nat.lt_of_lt_of_le hi h.size) hg).trans (h.block i hi hg)⟩
theorem Bar.of {g:Nat} {w w':World} (h:Up w w'):Bar g w w':=⟨h.os,h.tape,h.output,h.size,fun k hk _=>h.block k hk⟩
theorem Bar.below {g N:Nat} {w w':World} (h:Bar g w w') (hN:N≤g) (hw:N≤w.heap.size):Below N w w':=⟨h.os,h.tape,h.output,h.size,fun k hk=>h.block k (by omega) (by omega)⟩
theorem Bar.setCell (g i:Nat) (w:World) (v:Value):Bar g w (w.setCell ⟨g,i,none⟩ v):=
 ⟨rfl,rfl,rfl,by simp [World.setCell],fun k _ hk=>Below.heap_setCell _ _ _ _ hk⟩
theorem Bar.drew {g:Nat} {w w':World} (h:Bar g w w'):Bar g w w'.drew:=⟨h.os,h.tape,h.output,h.size,h.block⟩
theorem Bar.cell {g:Nat} {w w':World} (h:Bar g w w') {p:Addr} (hp:p.block<w.heap.size) (hg:p.block≠g):w'.cell? p=w.cell? p:=by
 unfold World.cell?; rw [h.block p.block hp hg]
def CodeIn (g N:Nat) (w:World) (a:Option Addr) (n cap:Nat):Prop:=n≤cap∧cap≤maxLen∧∀ i,i<n→∃ b off v:Nat,a=some ⟨b,off,none⟩∧b≠g∧b<N∧v<256∧w.cell? ⟨b,off+i,none⟩=some (.int .u8 v)
theorem CodeIn.bar {g N:Nat} {w w':World} {a:Option Addr} {n cap:Nat} (h:CodeIn g N w a n cap) (hN:N≤w.heap.size) (hb:Bar g w w'):CodeIn g N w' a n cap:=
 ⟨h.1,h.2.1,fun i hi=>by
  obtain ⟨b,j,v,e,m,s,h3,h4⟩:=h.2.2 i hi
  exact ⟨b,j,v,e,m,s,h3,(hb.cell (p:=⟨b,j+i,none⟩) (Nat.lt_of_lt_of_le s hN) m).trans h4⟩⟩
def IsCur (g N:Nat) (w:World) (k:Nat):Prop:=g<N∧N≤w.heap.size∧∃ a n cap sd,Bx w g [.slice a n cap,.int .i64 (k:Nat),.int .u64 (sd:Nat)]∧sd<18446744073709551616∧CodeIn g N w a n cap
theorem IsCur.below {g N k:Nat} {w w':World} (h:IsCur g N w k) (hb:Below N w w'):IsCur g N w' k:=by
 obtain ⟨t,E,a,n,cap,H,G,F,m⟩:=h; refine ⟨t,Nat.le_trans E hb.size,a,n,cap,H,G.below t hb,F,m.1,m.2.1,fun i hi=>?_⟩; obtain ⟨b,j,v,e,u,s,A,D⟩:=m.2.2 i hi; exact ⟨b,j,v,e,u,s,A,(hb.cell (p:=⟨b,j+i,none⟩) s).trans D⟩
theorem wrap_u64_ex (x:Int):∃ m:Nat,IntKind.u64.wrap x=(m:Int)∧m<18446744073709551616:=by
 refine ⟨(IntKind.u64.wrap x).toNat,?_,?_⟩<;>simp only [IntKind.wrap_u64]<;>omega
theorem shr_and (m:Nat) (hm:m<18446744073709551616):∃ r:Nat,wrap64 (bits BinOp.and IntKind.u64 ((m:Int) / 1099511627776) 255)=(r:Int)∧r<256:=by
 have j:((m:Int) / 1099511627776)=((m / 1099511627776:Nat):Int):=by omega
 have i:=bits_and_u64_nat (m / 1099511627776) 255 (by omega) (by decide); have h3:(m / 1099511627776) &&& 255≤255:=Nat.and_le_right; obtain ⟨x,t⟩:∃ x:Nat,(m / 1099511627776) &&& 255=x:=⟨_,rfl⟩; rw [t] at h3 i; refine ⟨x,?_,by omega⟩; have s:((255:Nat):Int)=255:=rfl; rw [s] at i; rw [j,i]; unfold wrap64; omega
theorem cur_step {g N k:Nat} {w:World} {a:Option Addr} {n cap sd:Nat} (hgN:g<N) (hN:N≤w.heap.size) (hx:Bx w g [.slice a n cap,.int .i64 (k:Nat),.int .u64 (sd:Nat)]) (hc:CodeIn g N w a n cap) (m1 m2 m:Nat) (hm:m<18446744073709551616) :
 IsCur g N ((((w.drewN m1).setCell ⟨g,1,none⟩ (.int .i64 ((k:Int)+1))).setCell ⟨g,2,none⟩ (.int .u64 (m:Nat))).drewN m2) (k+1)∧Bar g w ((((w.drewN m1).setCell ⟨g,1,none⟩ (.int .i64 ((k:Int)+1))).setCell ⟨g,2,none⟩ (.int .u64 (m:Nat))).drewN m2):=by
 have s:Bar g w ((((w.drewN m1).setCell ⟨g,1,none⟩ (.int .i64 ((k:Int)+1))).setCell ⟨g,2,none⟩ (.int .u64 (m:Nat))).drewN m2):=by
  have j:Bar g w (w.drewN m1):=⟨rfl,rfl,rfl,leR,fun _ _ _=>rfl⟩; have i:=(j.trans (Bar.setCell g 1 _ (.int .i64 ((k:Int)+1)))).trans (Bar.setCell g 2 _ (.int .u64 (m:Nat))); exact ⟨i.os,i.tape,i.output,i.size,i.block⟩
 refine ⟨⟨hgN,Nat.le_trans hN s.size,a,n,cap,m,?_,hm,hc.bar hN s⟩,s⟩; have j:Bx (w.drewN m1) g [.slice a n cap,.int .i64 (k:Nat),.int .u64 (sd:Nat)]:=by obtain ⟨t,h⟩:=hx; exact ⟨t,h⟩
 have i:=(j.set 1 (.int .i64 ((k:Int)+1))).set 2 (.int .u64 (m:Nat)); obtain ⟨t,h⟩:=i; exact ⟨t,h⟩
theorem next_any (g N k:Nat) (w:World) (h:IsCur g N w k) (hk:k≤1000000000000) :
 Calls Tryz.prog 34 #[.pointer (some ⟨g,0,none⟩)] w fun e w'=>∃ r:Nat,e=.returned (.int .i64 (r:Nat))∧r<256∧IsCur g N w' (k+1)∧Bar g w w':=by
 obtain ⟨D,u,a,n,cap,M,t,U,s⟩:=h; have i:=Hd (And.intro D u); clear D u; have L:=Hd t; have K:=Hd s; have A:=s.2.1; have hn:=s.1; unfold maxLen at A; obtain ⟨Z,k1,k2⟩:=t.k3; have f1:=t.frozen 1; have f2:=t.frozen 2
 by_cases H:k<n
 ·obtain ⟨b,W,v,O,Q,S,V,G⟩:=s.2.2 k H; subst O; have z:decide ((k:Int)<(n:Int))=true:=by rw [decide_eq_true_iff]; omega
  have Y:decide ((k:Int)+1≤(n:Int))=true:=by rw [decide_eq_true_iff]; omega
  clear t s
  go_enter Tryz.func34,Tryz.ntmps34
  go_wp2
  go_quiet (fail)
  go_wp2
  go_quiet (fail)
  go_wp2
  go_quiet (fail)
  go_wp2
  obtain ⟨m,I,j⟩:=wrap_u64_ex (IntKind.u64.wrap (IntKind.u64.wrap (↑M*6364136223846793005)+↑v)+1442695040888963407); rw [I]
  go_ret
  obtain ⟨E,F⟩:=cur_step i.o.1 i.o.2 L.o K.o _ _ m j; exact ⟨v,rfl,V,E,F⟩
 have z:decide ((k:Int)<(n:Int))=false:=by rw [decide_eq_false_iff_not]; omega
 have Y:decide ((k:Int)+1≤(n:Int))=false:=by rw [decide_eq_false_iff_not]; omega
 clear t s
 go_enter Tryz.func34,Tryz.ntmps34
 go_wp2
 go_quiet (fail)
 go_wp2
 go_quiet (fail)
 go_wp2
 obtain ⟨m,I,j⟩:=wrap_u64_ex (IntKind.u64.wrap (IntKind.u64.wrap (↑M*6364136223846793005))+1442695040888963407); obtain ⟨r,T,J⟩:=shr_and m j; rw [I,T]
 go_ret
 obtain ⟨E,F⟩:=cur_step i.o.1 i.o.2 L.o K.o _ _ m j; exact ⟨r,rfl,J,E,F⟩
theorem pick_any (g N k n:Nat) (w:World) (h:IsCur g N w k) (hk:k≤100000000000) (hn:0<n) (hn2:n≤65536) :
 Calls Tryz.prog 14 #[.pointer (some ⟨g,0,none⟩),.int .i64 (n:Nat)] w fun e w'=>∃ r k':Nat,e=.returned (.int .i64 (r:Nat))∧r<n∧k'≤k+2∧IsCur g N w' k'∧Bar g w w':=by
 have D:=Hd h; clear h
 by_cases J:n≤1
 ·have z:decide ((n:Int)≤1)=true:=by rw [decide_eq_true_iff]; omega
  go_enter Tryz.func14,Tryz.ntmps14
  go_wp2
  go_ret
  exact ⟨0,k,rfl,hn,by omega,D.o,Bar.refl _ _⟩
 have z:decide ((n:Int)≤1)=false:=by rw [decide_eq_false_iff_not]; omega
 by_cases K:200<n
 ·have I:decide (200<(n:Int))=true:=by rw [decide_eq_true_iff]; omega
  go_enter Tryz.func14,Tryz.ntmps14
  go_wp2_with fail
  refine (next_any g N k _ D.o (by omega)).mono ?_; rintro e H ⟨r1,rfl,F,j,i⟩; have s:=Hd j; have m:=Hd i; clear j i
  go_wp2_with fail
  refine (next_any g N (k+1) _ s.o (by omega)).mono ?_; rintro e L ⟨r2,rfl,G,u,t⟩; have E:=Hd u; have A:=Hd (m.o.trans t); clear u t
  go_wp2
  go_ret
  exact ⟨(r1*256+r2) % n,k+1+1,ret_int (by push_cast; rfl),Nat.mod_lt _ hn,by omega,E.o,A.o⟩
 have I:decide (200<(n:Int))=false:=by rw [decide_eq_false_iff_not]; omega
 go_enter Tryz.func14,Tryz.ntmps14
 go_wp2_with fail
 refine (next_any g N k _ D.o (by omega)).mono ?_; rintro e H ⟨r1,rfl,F,j,i⟩; have s:=Hd j; have m:=Hd i; clear j i
 go_wp2
 go_ret
 exact ⟨r1 % n,k+1,ret_int (by push_cast; rfl),Nat.mod_lt _ hn,by omega,s.o,m.o⟩
theorem Bar.grownBy {g:Nat} {w w':World} (h:Bar g w w'):w.grownBy w' (some g):=⟨h.os,h.tape,h.output,h.size,fun k hk hne=>h.block k hk (fun e=>hne (by rw [e]))⟩
theorem Bar.then {g:Nat} {w a b:World} (h:Bar g w a) (k:Below w.heap.size a b):Bar g w b:=
 ⟨k.os.trans h.os,k.tape.trans h.tape,k.output.trans h.output,Nat.le_trans h.size k.size,fun i hi hg=>(k.block i hi).trans (h.block i hi hg)⟩
def DigL (ds:List Nat):Prop:=∀ x∈ds,48≤x∧x≤57
theorem DigL.snoc {ds:List Nat} (h:DigL ds) (x:Nat) (h1:48≤x) (h2:x≤57):DigL (ds++[x]):=fun y hy=>by
 rcases List.mem_append.1 hy with h3|h3
 ·exact h y h3
 ·simp at h3; omega
def drawn (s:Bool) (ds:List Nat):List Nat:=(if s then [45] else [])++ds
theorem drawn_len (s:Bool) (ds:List Nat):(drawn s ds).length=(if s then 1 else 0)+ds.length:=by
 unfold drawn
 cases s<;>simp
 omega
theorem drawn_snoc (s:Bool) (ds:List Nat) (x:Nat):drawn s (ds++[x])=drawn s ds++[x]:=by unfold drawn; rw [List.append_assoc]
theorem headD_snoc (ds:List Nat) (x:Nat) (h:49≤ds.headD 0):49≤(ds++[x]).headD 0:=by
 cases ds with
 | nil=>simp at h
 | cons a l=>simpa using h
theorem drawn_lt {s:Bool} {ds:List Nat} (h:DigL ds):∀ x∈drawn s ds,x<256:=fun x hx=>by
 unfold drawn at hx
 rcases List.mem_append.1 hx with i|i
 ·cases s<;>simp at i; omega
 ·have:=h x i; omega
def DigInv (g N k n:Nat) (s:Bool) (w:World) (v i:Value) (W:World):Prop:=∃ (j k':Nat) (ds:List Nat),1≤j∧j≤n∧i=.int .i64 (j:Nat)∧ds.length=j∧DigL ds∧49≤ds.headD 0∧k'≤k+4+2*(j - 1) ∧
 v=.slice (some ⟨w.heap.size,0,none⟩) (drawn s ds).length (n+1)∧W.ownsRow w.heap.size 5 1 (.slice (some ⟨w.heap.size,0,none⟩) (drawn s ds).length (n+1)) (drawn s ds).length (U8s (drawn s ds))∧IsCur g N W k'∧Bar g w W
theorem digits_any (g N k n:Nat) (w:World) (h:IsCur g N w k) (hk:k≤1000000000) (hn:1≤n) (hn2:n≤3000) :
 Calls Tryz.prog 64 #[.pointer (some ⟨g,0,none⟩),.int .i64 (n:Nat)] w fun e w'=>∃ (s:Bool) (ds:List Nat) (k':Nat),e=.returned (.string (strB (bytesOf (drawn s ds))))∧ds.length=n∧DigL ds∧49≤ds.headD 0∧k'≤k+2*n+10∧IsCur g N w' k'∧Bar g w w':=by
 obtain ⟨i0,I,i2,a3,i3⟩:=info_parts Tryz.info_u8; have HC:=Hd h; have j2:=h.1; have Y:=h.2.1; clear h
 go_enter Tryz.func64,Tryz.ntmps64
 go_wp2_with (at_make; refine wpList_make_own _ rfl _ _ 22 rfl w.heap.size 5 i0 (.int .u8 0) 1 Tryz.underlying22 I i2 a3 .i64 .i64 _ (n+1) rfl rfl ?m1 ?m2 ?m3 ?m4 ?_)
 case m1=>omega
 case m2=>rw [i3]; omega
 case m3=>unfold maxLen; omega
 case m4=>exact leR
 intro w2 d0 d6; have e5:Up w w2:=(Below.refl _ _).grown d6 leR (fun k h=>by cases h); have e3:=Hd d0; have g4:=Hd (HC.o.below (e5.mono Y)); have g2:Hid (Bar g w w2):=Bar.of e5; clear d6 d0 e5
 go_wp2_with fail
 refine (pick_any g N k 3 _ g4.o (by omega) (by decide) (by decide)).mono ?_; rintro e w3 ⟨r3,k3,rfl,j5,j4,f7,e7⟩; have f5:=Hd f7; have d4:=Hd (g2.o.trans e7); have b9:=Hd (e3.o.kept e7.grownBy (.inr (by simp [Value.ownBlock]; omega))); clear f7 e7
 by_cases h0:r3=0
 ·have z0:((r3:Int)==0)=true:=by rw [beq_iff_eq]; omega
  have d1:=b9.o
  go_wp2_with (at_builtin; refine wpList_append_fits _ rfl _ _ 22 rfl w.heap.size 5 i0 1 Tryz.underlying22 I a3 w.heap.size (0) (n+1) _ rfl (d1.alloc _) ⟨w3.heap.size,0,none⟩ 1 1 [_] rfl rfl (cell_one_new _ _ _) ?c1 ?c2 ?_)
  case c1=>first|rfl|(intro u S; simp at S; subst S; rfl)
  case c2=>omega
  intro w4 d2 d7; have e6:Below w.heap.size w3 w4:=((Below.refl _ w3).alloc d4.o.size _).grown d7 (by have:=d4.o.size; simp; omega) (fun k e=>by cases e; exact leR); have e4:=Hd d2; have g6:=Hd (f5.o.below (e6.mono Y)); have g3:=Hd (d4.o.then e6); clear d1 d2 d7 e6
  go_wp2_with fail
  refine (pick_any g N k3 9 _ g6.o (by omega) (by decide) (by decide)).mono ?_; rintro e w5 ⟨r5,k5,rfl,h7,g8,c7,b3⟩; have d9:=Hd c7; have a5:=Hd (g3.o.trans b3); have a8:=Hd (e4.o.kept b3.grownBy (.inr (by simp [Value.ownBlock]; omega))); clear c7 b3; have O:=a8.o
  go_wp2_with (at_builtin; refine wpList_append_fits _ rfl _ _ 22 rfl w.heap.size 5 i0 1 Tryz.underlying22 I a3 w.heap.size (1) (n+1) _ rfl (O.alloc _) ⟨w5.heap.size,0,none⟩ 1 1 [_] rfl rfl (cell_one_new _ _ _) ?c1 ?c2 ?_)
  case c1=>first|rfl|(intro u S; simp at S; subst S; rfl)
  case c2=>omega
  intro w6 Q Z; have a9:Below w.heap.size w5 w6:=((Below.refl _ w5).alloc a5.o.size _).grown Z (by have:=a5.o.size; simp; omega) (fun k e=>by cases e; exact leR); have W:Hid (DigInv g N k n true w (.slice (some ⟨w.heap.size,0,none⟩) (1+1) (n+1)) (.int .i64 1) w6):=by
   refine ⟨1,k5,[49+r5],leR,hn,rfl,rfl,?_,?_,by omega,rfl,?_,d9.o.below (a9.mono Y),a5.o.then a9⟩
   ·intro x hx; simp at hx; omega
   ·simp
   simpa [U8s,drawn] using Q
  clear O Q Z a9
  go_wp2_with fail
  go_loopw [5,6] (DigInv g N k n true w) (fun _ i _=>n - (intOf i).toNat)
  case atStart=>exact W.o
  case round=>
   clear W; obtain ⟨j,kj,ds,g7,hj,rfl,G,T,b5,h1,rfl,E,M,L⟩:=hrel; obtain ⟨m,hm⟩:=exW ((drawn true ds).length); have HM:=Hd hm; have c9:m=1+j:=by rw [← hm,drawn_len,G]; rfl
   have e2:=Hd c9; rw [hm] at E ⊢; clear hm c9; have a6:=Hd T; have a7:=Hd b5; have J:=Hd G; have U:=Hd L; have V:=Hd M; have b8:=Hd E
   by_cases h2:j<n
   ·have zj:decide ((j:Int)<(n:Int))=true:=by rw [decide_eq_true_iff]; omega
    have h6:m+1≤n+1:=by have:=e2.o; omega
    clear T b5 G L M E
    go_wp2_with fail
    refine (pick_any g N kj 14 _ V.o (by omega) (by decide) (by decide)).mono ?_; rintro e w7 ⟨r7,k7,rfl,h8,g9,c8,b4⟩; have b7:=Hd c8; have H:=Hd (U.o.trans b4); have A:=b8.o.kept b4.grownBy (.inr (by simp [Value.ownBlock]; omega)); clear c8 b4
    by_cases h9:9<r7
    ·have z9:decide (9<(r7:Int))=true:=by rw [decide_eq_true_iff]; omega
     go_wp2_with (at_builtin; refine wpList_append_fits _ rfl _ _ 22 rfl w.heap.size 5 i0 1 Tryz.underlying22 I a3 w.heap.size (m) (n+1) _ rfl (A.alloc _) ⟨w7.heap.size,0,none⟩ 1 1 [_] rfl rfl (cell_one_new _ _ _) ?c1 ?c2 ?_)
     case c1=>first|rfl|(intro u S; simp at S; subst S; rfl)
     case c2=>omega
     intro w8 t D; have F:Below w.heap.size w7 w8:=((Below.refl _ w7).alloc H.o.size _).grown D (by have:=H.o.size; simp; omega) (fun k e=>by cases e; exact leR); have K:Hid (DigInv g N k n true w (.slice (some ⟨w.heap.size,0,none⟩) (m+1) (n+1)) (.int .i64 ((j:Int)+1)) w8):=by
      have e1:(drawn true (ds++[48+9*(r7 % 2)])).length=m+1:=by rw [drawn_snoc,List.length_append,HM.o]; rfl
      refine ⟨j+1,k7,ds++[48+9*(r7 % 2)],by omega,by omega,rfl,?_,a6.o.snoc _ (by omega) (by omega),headD_snoc _ _ a7.o,by omega,by rw [e1],?_,b7.o.below (F.mono Y),H.o.then F⟩
      ·rw [List.length_append,J.o]; rfl
      ·rw [e1,drawn_snoc,U8s_snoc]
       simpa using t
     clear A t D F
     go_wp2
     go_roundw
     case rel=>exact K.o
     case measure=>simp [intOf]; omega
    ·have z9:decide (9<(r7:Int))=false:=by rw [decide_eq_false_iff_not]; omega
     go_wp2_with (at_builtin; refine wpList_append_fits _ rfl _ _ 22 rfl w.heap.size 5 i0 1 Tryz.underlying22 I a3 w.heap.size (m) (n+1) _ rfl (A.alloc _) ⟨w7.heap.size,0,none⟩ 1 1 [_] rfl rfl (cell_one_new _ _ _) ?c1 ?c2 ?_)
     case c1=>first|rfl|(intro u S; simp at S; subst S; rfl)
     case c2=>omega
     intro w8 t D; have F:Below w.heap.size w7 w8:=((Below.refl _ w7).alloc H.o.size _).grown D (by have:=H.o.size; simp; omega) (fun k e=>by cases e; exact leR); have K:Hid (DigInv g N k n true w (.slice (some ⟨w.heap.size,0,none⟩) (m+1) (n+1)) (.int .i64 ((j:Int)+1)) w8):=by
      have e1:(drawn true (ds++[48+r7])).length=m+1:=by rw [drawn_snoc,List.length_append,HM.o]; rfl
      refine ⟨j+1,k7,ds++[48+r7],by omega,by omega,rfl,?_,a6.o.snoc _ (by omega) (by omega),headD_snoc _ _ a7.o,by omega,by rw [e1],?_,b7.o.below (F.mono Y),H.o.then F⟩
      ·rw [List.length_append,J.o]; rfl
      ·rw [e1,drawn_snoc,U8s_snoc]
       simpa using t
     clear A t D F
     go_wp2
     go_roundw
     case rel=>exact K.o
     case measure=>simp [intOf]; omega
   ·have zj:decide ((j:Int)<(n:Int))=false:=by rw [decide_eq_false_iff_not]; omega
    have e8:=conv_bytes _ _ _ _ _ _ E (drawn_lt T) HM.o; clear T b5 G L M E
    go_wp2
    go_ret
    exact ⟨true,ds,kj,rfl,by have:=J.o; omega,a6.o,a7.o,by omega,V.o,U.o⟩
 have z0:((r3:Int)==0)=false:=by rw [beq_eq_false_iff_ne]; omega
 go_wp2_with fail
 refine (pick_any g N k3 9 _ f5.o (by omega) (by decide) (by decide)).mono ?_; rintro e w5 ⟨r5,k5,rfl,h7,g8,c7,b3⟩; have d9:=Hd c7; have a5:=Hd (d4.o.trans b3); have a8:=Hd (b9.o.kept b3.grownBy (.inr (by simp [Value.ownBlock]; omega))); clear c7 b3; have O:=a8.o
 go_wp2_with (at_builtin; refine wpList_append_fits _ rfl _ _ 22 rfl w.heap.size 5 i0 1 Tryz.underlying22 I a3 w.heap.size (0) (n+1) _ rfl (O.alloc _) ⟨w5.heap.size,0,none⟩ 1 1 [_] rfl rfl (cell_one_new _ _ _) ?c1 ?c2 ?_)
 case c1=>first|rfl|(intro u S; simp at S; subst S; rfl)
 case c2=>omega
 intro w6 Q Z; have a9:Below w.heap.size w5 w6:=((Below.refl _ w5).alloc a5.o.size _).grown Z (by have:=a5.o.size; simp; omega) (fun k e=>by cases e; exact leR); have W:Hid (DigInv g N k n false w (.slice (some ⟨w.heap.size,0,none⟩) (0+1) (n+1)) (.int .i64 1) w6):=by
  refine ⟨1,k5,[49+r5],leR,hn,rfl,rfl,?_,?_,by omega,rfl,?_,d9.o.below (a9.mono Y),a5.o.then a9⟩
  ·intro x hx; simp at hx; omega
  ·simp
  simpa [U8s,drawn] using Q
 clear O Q Z a9
 go_wp2_with fail
 go_loopw [5,6] (DigInv g N k n false w) (fun _ i _=>n - (intOf i).toNat)
 case atStart=>exact W.o
 case round=>
  clear W; obtain ⟨j,kj,ds,g7,hj,rfl,G,T,b5,h1,rfl,E,M,L⟩:=hrel; obtain ⟨m,hm⟩:=exW ((drawn false ds).length); have HM:=Hd hm; have c9:m=0+j:=by rw [← hm,drawn_len,G]; rfl
  have e2:=Hd c9; rw [hm] at E ⊢; clear hm c9; have a6:=Hd T; have a7:=Hd b5; have J:=Hd G; have U:=Hd L; have V:=Hd M; have b8:=Hd E
  by_cases h2:j<n
  ·have zj:decide ((j:Int)<(n:Int))=true:=by rw [decide_eq_true_iff]; omega
   have h6:m+1≤n+1:=by have:=e2.o; omega
   clear T b5 G L M E
   go_wp2_with fail
   refine (pick_any g N kj 14 _ V.o (by omega) (by decide) (by decide)).mono ?_; rintro e w7 ⟨r7,k7,rfl,h8,g9,c8,b4⟩; have b7:=Hd c8; have H:=Hd (U.o.trans b4); have A:=b8.o.kept b4.grownBy (.inr (by simp [Value.ownBlock]; omega)); clear c8 b4
   by_cases h9:9<r7
   ·have z9:decide (9<(r7:Int))=true:=by rw [decide_eq_true_iff]; omega
    go_wp2_with (at_builtin; refine wpList_append_fits _ rfl _ _ 22 rfl w.heap.size 5 i0 1 Tryz.underlying22 I a3 w.heap.size (m) (n+1) _ rfl (A.alloc _) ⟨w7.heap.size,0,none⟩ 1 1 [_] rfl rfl (cell_one_new _ _ _) ?c1 ?c2 ?_)
    case c1=>first|rfl|(intro u S; simp at S; subst S; rfl)
    case c2=>omega
    intro w8 t D; have F:Below w.heap.size w7 w8:=((Below.refl _ w7).alloc H.o.size _).grown D (by have:=H.o.size; simp; omega) (fun k e=>by cases e; exact leR); have K:Hid (DigInv g N k n false w (.slice (some ⟨w.heap.size,0,none⟩) (m+1) (n+1)) (.int .i64 ((j:Int)+1)) w8):=by
     have e1:(drawn false (ds++[48+9*(r7 % 2)])).length=m+1:=by rw [drawn_snoc,List.length_append,HM.o]; rfl
     refine ⟨j+1,k7,ds++[48+9*(r7 % 2)],by omega,by omega,rfl,?_,a6.o.snoc _ (by omega) (by omega),headD_snoc _ _ a7.o,by omega,by rw [e1],?_,b7.o.below (F.mono Y),H.o.then F⟩
     ·rw [List.length_append,J.o]; rfl
     ·rw [e1,drawn_snoc,U8s_snoc]
      simpa using t
    clear A t D F
    go_wp2
    go_roundw
    case rel=>exact K.o
    case measure=>simp [intOf]; omega
   ·have z9:decide (9<(r7:Int))=false:=by rw [decide_eq_false_iff_not]; omega
    go_wp2_with (at_builtin; refine wpList_append_fits _ rfl _ _ 22 rfl w.heap.size 5 i0 1 Tryz.underlying22 I a3 w.heap.size (m) (n+1) _ rfl (A.alloc _) ⟨w7.heap.size,0,none⟩ 1 1 [_] rfl rfl (cell_one_new _ _ _) ?c1 ?c2 ?_)
    case c1=>first|rfl|(intro u S; simp at S; subst S; rfl)
    case c2=>omega
    intro w8 t D; have F:Below w.heap.size w7 w8:=((Below.refl _ w7).alloc H.o.size _).grown D (by have:=H.o.size; simp; omega) (fun k e=>by cases e; exact leR); have K:Hid (DigInv g N k n false w (.slice (some ⟨w.heap.size,0,none⟩) (m+1) (n+1)) (.int .i64 ((j:Int)+1)) w8):=by
     have e1:(drawn false (ds++[48+r7])).length=m+1:=by rw [drawn_snoc,List.length_append,HM.o]; rfl
     refine ⟨j+1,k7,ds++[48+r7],by omega,by omega,rfl,?_,a6.o.snoc _ (by omega) (by omega),headD_snoc _ _ a7.o,by omega,by rw [e1],?_,b7.o.below (F.mono Y),H.o.then F⟩
     ·rw [List.length_append,J.o]; rfl
     ·rw [e1,drawn_snoc,U8s_snoc]
      simpa using t
    clear A t D F
    go_wp2
    go_roundw
    case rel=>exact K.o
    case measure=>simp [intOf]; omega
  ·have zj:decide ((j:Int)<(n:Int))=false:=by rw [decide_eq_false_iff_not]; omega
   have e8:=conv_bytes _ _ _ _ _ _ E (drawn_lt T) HM.o; clear T b5 G L M E
   go_wp2
   go_ret
   exact ⟨false,ds,kj,rfl,by have:=J.o; omega,a6.o,a7.o,by omega,V.o,U.o⟩
theorem drawn_size (s:Bool) (ds:List Nat) (n:Nat) (h:ds.length=n):(strB (bytesOf (drawn s ds))).size≤n+1:=by
 rw [strB_size,bytesOf,List.length_map,drawn_len,h]
 cases s<;>simp; omega
theorem Bx.bar {W W':World} {b g:Nat} {l:List Value} (h:Bx W b l) (hb:Bar g W W') (hg:b≠g):Bx W' b l:=by
 obtain ⟨t,h⟩:=h; exact ⟨t,(hb.block b (Array.getElem?_eq_some_iff.1 h).1 hg).trans h⟩
theorem digS_any (g N k n:Nat) (x:Int) (w:World) (h:IsCur g N w k) (hx:x=(n:Nat)) (hk:k≤1000000000) (hn:1≤n) (hn2:n≤3000) :
 Calls Tryz.prog 64 #[.pointer (some ⟨g,0,none⟩),.int .i64 x] w fun e w'=>∃ (u:ByteArray) (k':Nat),e=.returned (.string u)∧u.size≤6000∧k'≤k+6010∧IsCur g N w' k'∧Bar g w w':=by
 subst hx; refine (digits_any g N k n w h hk hn hn2).mono ?_; rintro e w' ⟨s,i,k',rfl,j,_,_,h4,h5,m⟩; exact ⟨_,k',rfl,by have:=drawn_size s i n j; omega,by omega,h5,m⟩
theorem full_sz (ng:Bool) (t:List Nat) (h:t.length≤600):(fullT ng t).size≤6000:=by
 have i:=textD_len t; unfold fullT
 split
 ·rw [strB_size]; decide
 split
 ·rw [strB_size,List.length_cons]; omega
 rw [strB_size]; omega
theorem number_any (g N k:Nat) (w:World) (h:IsCur g N w k) (hk:k≤100000000) :
 Calls Tryz.prog 63 #[.pointer (some ⟨g,0,none⟩)] w fun e w'=>∃ (u:ByteArray) (k':Nat),e=.returned (.string u)∧u.size≤6000∧k'≤k+8000∧IsCur g N w' k'∧Bar g w w':=by
 have HC:=Hd h; have e1:=h.2.1; clear h
 go_enter Tryz.func63,Tryz.ntmps63
 go_wp2_with fail
 refine (pick_any g N k 12 _ HC.o (by omega) (by decide) (by decide)).mono ?_; rintro e w1 ⟨r,W,rfl,hr,e2,b5,b4⟩; have G:=Hd b5; have J:=Hd b4; clear b5 b4; have a3:r=0∨r=1∨r=2∨r=3∨r=4∨r=5∨r=6∨r=7∨r=8∨r=9∨r=10∨r=11:=by omega
 rcases a3 with rfl|rfl|rfl|rfl|rfl|rfl|rfl|rfl|rfl|rfl|rfl|rfl
 case' _=>
  skip
 rotate_left
 case' _=>
  skip
 rotate_left
 case' _=>
  skip
 rotate_left
 ·go_wp2_with fail
  refine (pick_any g N W 4 _ G.o (by omega) (by decide) (by decide)).mono ?_; rintro e Y ⟨r2,k2,rfl,M,L,j,i⟩; have s:=Hd j; have A:=Hd (J.o.trans i); clear j i
  go_wp2_with fail
  refine (digS_any g N k2 (8+r2) _ _ s.o (by push_cast; rfl) (by omega) (by omega) (by omega)).mono ?_; rintro e w9 ⟨u,V,rfl,O,U,E,D⟩; have H:=Hd E; have F:=Hd (A.o.trans D); clear E D
  go_wp2
  go_ret
  exact ⟨u,V,rfl,O,by omega,H.o,F.o⟩
 ·go_wp2_with fail
  refine (pick_any g N W 4 _ G.o (by omega) (by decide) (by decide)).mono ?_; rintro e Y ⟨r2,k2,rfl,M,L,j,i⟩; have s:=Hd j; have A:=Hd (J.o.trans i); clear j i
  go_wp2_with fail
  refine (digS_any g N k2 (17+r2) _ _ s.o (by push_cast; rfl) (by omega) (by omega) (by omega)).mono ?_; rintro e w9 ⟨u,V,rfl,O,U,E,D⟩; have H:=Hd E; have F:=Hd (A.o.trans D); clear E D
  go_wp2
  go_ret
  exact ⟨u,V,rfl,O,by omega,H.o,F.o⟩
 ·go_wp2_with fail
  refine (pick_any g N W 60 _ G.o (by omega) (by decide) (by decide)).mono ?_; rintro e Y ⟨r2,k2,rfl,M,L,j,i⟩; have s:=Hd j; have A:=Hd (J.o.trans i); clear j i
  go_wp2_with fail
  refine (digS_any g N k2 (20+r2) _ _ s.o (by push_cast; rfl) (by omega) (by omega) (by omega)).mono ?_; rintro e w9 ⟨u,V,rfl,O,U,E,D⟩; have H:=Hd E; have F:=Hd (A.o.trans D); clear E D
  go_wp2
  go_ret
  exact ⟨u,V,rfl,O,by omega,H.o,F.o⟩
 ·obtain ⟨W1,Z⟩:=exW (w1.alloc (.cells #[.string ⟨#[]⟩,.string ⟨#[45]⟩,.string ⟨#[45,48]⟩,.string ⟨#[48,48]⟩,.string ⟨#[55,97]⟩,.string ⟨#[43,49]⟩,.string ⟨#[49,50,45]⟩,.string ⟨#[48,120,49]⟩,.string ⟨#[32,49]⟩,.string ⟨#[45,48,49]⟩] 9)); have d1:=Hd Z; have a8:Up w1 W1:=by rw [← Z]; exact below_alloc _ _
  have HX:Hid (Bx W1 w1.heap.size [.string ⟨#[]⟩,.string ⟨#[45]⟩,.string ⟨#[45,48]⟩,.string ⟨#[48,48]⟩,.string ⟨#[55,97]⟩,.string ⟨#[43,49]⟩,.string ⟨#[49,50,45]⟩,.string ⟨#[48,120,49]⟩,.string ⟨#[32,49]⟩,.string ⟨#[45,48,49]⟩]):=by show Bx _ _ _; rw [← Z]; exact bx_new w1 _ _
  have c8:=Hd (G.o.below (a8.mono G.o.2.1)); have c7:=Hd (J.o.trans (Bar.of a8)); have d0:Hid (w1.heap.size≠g):=by have h1:=G.o.1; have h2:=G.o.2.1; show w1.heap.size≠g; omega
  clear Z a8
  go_wp2_with fail
  rw [d1.o]; refine (pick_any g N W 10 _ c8.o (by omega) (by decide) (by decide)).mono ?_; rintro e Y ⟨r2,k2,rfl,M,L,j,i⟩; have s:=Hd j; have A:=Hd (c7.o.trans i); have b8:=HX.o.bar i d0.o; have O:∃ u:ByteArray,([.string ⟨#[]⟩,.string ⟨#[45]⟩,.string ⟨#[45,48]⟩,.string ⟨#[48,48]⟩,.string ⟨#[55,97]⟩,.string ⟨#[43,49]⟩,.string ⟨#[49,50,45]⟩,.string ⟨#[48,120,49]⟩,.string ⟨#[32,49]⟩,.string ⟨#[45,48,49]⟩]:List Value)[r2]? = some (.string u)∧u.size≤10:=by
   have:r2=0∨r2=1∨r2=2∨r2=3∨r2=4∨r2=5∨r2=6∨r2=7∨r2=8∨r2=9:=by omega
   rcases this with rfl|rfl|rfl|rfl|rfl|rfl|rfl|rfl|rfl|rfl<;>exact ⟨_,rfl,by decide⟩
  obtain ⟨u,O,e3⟩:=O; have c:=(b8.cell r2).trans O; clear j i b8 O
  go_wp2
  go_ret
  exact ⟨u,k2,rfl,by omega,by omega,s.o,A.o⟩
 ·go_wp2_with fail
  refine (pick_any g N W 64 _ G.o (by omega) (by decide) (by decide)).mono ?_; rintro e Y ⟨r2,k2,rfl,M,L,j,i⟩; have s:=Hd j; have A:=Hd (J.o.trans i); clear j i
  go_wp2_with fail
  refine (pick_any g N k2 2 _ s.o (by omega) (by decide) (by decide)).mono ?_; rintro e w3 ⟨r3,k3,rfl,b7,b6,Q,I⟩; have K:=Hd Q; have T:=Hd (A.o.trans I); clear Q I; obtain ⟨m,hm,d2⟩:=wrap_u64_ex (IntKind.u64.wrap (2 ^ r2) - ↑r3); have HM:=Hd hm; clear hm
  go_wp2_with fail
  rw [HM.o]; refine (specOf_any m _ d2).mono ?_; rintro e w4 ⟨t,⟨_,_,_,hl⟩,rfl,S⟩; have a5:=Hd (T.o.trans (Bar.of S)); have a6:=Hd (K.o.below (S.mono K.o.2.1)); have a7:=Hd (full_sz false t (by omega)); clear S
  go_wp2
  go_ret
  exact ⟨_,k3,rfl,a7.o,by omega,a6.o,a5.o⟩
 ·go_wp2_with fail
  refine (pick_any g N W 6 _ G.o (by omega) (by decide) (by decide)).mono ?_; rintro e Y ⟨r2,k2,rfl,M,L,j,i⟩; have s:=Hd j; have A:=Hd (J.o.trans i); clear j i
  by_cases h0:r2=0
  case' pos=>
   have z0:((r2:Int)==0)=true:=by rw [beq_iff_eq]; omega
   go_wp2_with fail
   refine (pick_any g N k2 3 _ s.o (by omega) (by decide) (by decide)).mono ?_; rintro e w3 ⟨r3,k3,rfl,b7,b6,Q,I⟩; have K:=Hd Q; have T:=Hd (A.o.trans I); clear Q I
   go_wp2_with fail
   refine (digS_any g N k3 (2499+r3) _ _ K.o (by push_cast; rfl) (by omega) (by omega) (by omega)).mono ?_
  case' neg=>
   have z0:((r2:Int)==0)=false:=by rw [beq_eq_false_iff_ne]; omega
   go_wp2_with fail
   refine (pick_any g N k2 4 _ s.o (by omega) (by decide) (by decide)).mono ?_; rintro e w3 ⟨r3,k3,rfl,b7,b6,Q,I⟩; have K:=Hd Q; have T:=Hd (A.o.trans I); clear Q I
   go_wp2_with fail
   refine (digS_any g N k3 (9*(1+r3)) _ _ K.o (by push_cast; rfl) (by omega) (by omega) (by omega)).mono ?_
  all_goals
   rintro e w9 ⟨u,V,rfl,O,U,E,D⟩; have H:=Hd E; have F:=Hd (T.o.trans D); clear E D
   go_wp2
   go_ret
   exact ⟨u,V,rfl,O,by omega,H.o,F.o⟩
 ·go_wp2_with fail
  refine (pick_any g N W 12 _ G.o (by omega) (by decide) (by decide)).mono ?_; rintro e Y ⟨r2,k2,rfl,M,L,j,i⟩; have s:=Hd j; have A:=Hd (J.o.trans i); clear j i
  go_wp2_with fail
  refine (digS_any g N k2 (1+r2) _ _ s.o (by push_cast; rfl) (by omega) (by omega) (by omega)).mono ?_; rintro e w9 ⟨u,V,rfl,O,U,E,D⟩; have H:=Hd E; have F:=Hd (A.o.trans D); clear E D
  go_wp2
  go_ret
  exact ⟨u,V,rfl,O,by omega,H.o,F.o⟩
 ·go_wp2_with fail
  refine (pick_any g N W 12 _ G.o (by omega) (by decide) (by decide)).mono ?_; rintro e Y ⟨r2,k2,rfl,M,L,j,i⟩; have s:=Hd j; have A:=Hd (J.o.trans i); clear j i
  go_wp2_with fail
  refine (digS_any g N k2 (1+r2) _ _ s.o (by push_cast; rfl) (by omega) (by omega) (by omega)).mono ?_; rintro e w9 ⟨u,V,rfl,O,U,E,D⟩; have H:=Hd E; have F:=Hd (A.o.trans D); clear E D
  go_wp2
  go_ret
  exact ⟨u,V,rfl,O,by omega,H.o,F.o⟩
 ·go_wp2_with fail
  refine (pick_any g N W 12 _ G.o (by omega) (by decide) (by decide)).mono ?_; rintro e Y ⟨r2,k2,rfl,M,L,j,i⟩; have s:=Hd j; have A:=Hd (J.o.trans i); clear j i
  go_wp2_with fail
  refine (digS_any g N k2 (1+r2) _ _ s.o (by push_cast; rfl) (by omega) (by omega) (by omega)).mono ?_; rintro e w9 ⟨u,V,rfl,O,U,E,D⟩; have H:=Hd E; have F:=Hd (A.o.trans D); clear E D
  go_wp2
  go_ret
  exact ⟨u,V,rfl,O,by omega,H.o,F.o⟩
 all_goals
  go_wp2_with fail
  refine (pick_any g N W 24 _ G.o (by omega) (by decide) (by decide)).mono ?_; rintro e Y ⟨r2,k2,rfl,M,L,j,i⟩; have s:=Hd j; have A:=Hd (J.o.trans i); clear j i
  go_wp2_with fail
  refine (l1Small_any _ _ (by omega) (by omega)).mono ?_; rintro e w3 ⟨z,rfl,⟨ng,t,hz,_,hl⟩,I⟩; have HZ:=Hd hz; have T:=Hd (A.o.trans (Bar.of I)); have K:=Hd (s.o.below (I.mono s.o.2.1)); have c9:Hid (Y.heap.size≤w3.heap.size):=I.size; clear hz I
  go_wp2_with fail
  refine (l1Text_any _ _ ng t _ HZ.o c9.o (by omega)).mono ?_; rintro e w4 ⟨rfl,S⟩; have a5:=Hd (T.o.trans (Bar.of S)); have a6:=Hd (K.o.below (S.mono K.o.2.1)); have a7:=Hd (full_sz (negOf ng t) t (by omega)); clear S
  go_wp2
  go_ret
  exact ⟨_,k2,rfl,a7.o,by omega,a6.o,a5.o⟩
def CodeArg (w:World) (a:Option Addr) (n cap:Nat):Prop:=n≤cap∧cap≤maxLen∧∀ i,i<n→∃ b off v:Nat,a=some ⟨b,off,none⟩∧b<w.heap.size∧v<256∧w.cell? ⟨b,off+i,none⟩=some (.int .u8 v)
theorem CodeArg.below {w w':World} {a:Option Addr} {n cap:Nat} (h:CodeArg w a n cap) (hb:Up w w'):CodeArg w' a n cap:=
 ⟨h.1,h.2.1,fun i hi=>by
  obtain ⟨b,j,v,e,m,s,h3⟩:=h.2.2 i hi
  exact ⟨b,j,v,e,Nat.lt_of_lt_of_le m hb.size,s,(hb.cell (p:=⟨b,j+i,none⟩) m).trans h3⟩⟩
theorem cur_new {w:World} {a:Option Addr} {n cap:Nat} (h:CodeArg w a n cap) (ty:TypeId):IsCur w.heap.size (w.heap.size+1) (w.alloc (.cells #[.slice a n cap,.int .i64 0,.int .u64 0] ty)) 0:=by
 refine ⟨Nat.lt_succ_self _,by rw [World.size_alloc]; exact leR,a,n,cap,0,bx_new w _ ty,by decide,h.1,h.2.1,fun i hi=>?_⟩; obtain ⟨b,j,v,e,m,s,h3⟩:=h.2.2 i hi; exact ⟨b,j,v,e,by omega,by omega,s,((below_alloc w _).cell (p:=⟨b,j+i,none⟩) m).trans h3⟩
theorem strB_ext0 (c:UInt8) (l:List UInt8):((strB (c::l)).extract 0 1).toList=[c]:=by
 rw [ByteArray.toList_eq]; simp [strB]
theorem strB_ext1 (c:UInt8) (l:List UInt8):((strB (c::l)).extract 1 (strB (c::l)).size).data.toList=l:=by
 rw [strB_size]; simp [strB]
theorem digL_bytes {ds:List Nat} (h:DigL ds):(bytesOf ds).all isDig=true:=by
 rw [List.all_eq_true]; intro c i; unfold bytesOf at i; rw [List.mem_map] at i; obtain ⟨x,j,rfl⟩:=i; have:=h x j; unfold isDig; rw [decide_eq_true_iff,UInt8.toNat_ofNat_of_lt' (by simp [UInt8.size]; omega)]; exact this
theorem drawn_int (s:Bool) (ds:List Nat) (h:DigL ds) (hh:49≤ds.headD 0) (h2:ds.length≤2500):isIntB (strB (bytesOf (drawn s ds)))=true∧((strB (bytesOf (drawn s ds))).toList==[48])=false:=by
 cases ds with
 | nil=>simp at hh
 | cons d l=>
   have I:=h d (by simp); have F:49≤d:=by simpa using hh
   have i:=digL_bytes h; have j:UInt8.ofNat d≠48:=fun e=>by
    have:=congrArg UInt8.toNat e; rw [UInt8.toNat_ofNat_of_lt' (by simp [UInt8.size]; omega)] at this; have H:(48:UInt8).toNat=48:=rfl; omega
   have m:UInt8.ofNat d≠45:=fun e=>by
    have:=congrArg UInt8.toNat e; rw [UInt8.toNat_ofNat_of_lt' (by simp [UInt8.size]; omega)] at this; have G:(45:UInt8).toNat=45:=rfl; omega
   cases s
   ·have D:bytesOf (drawn false (d::l))=UInt8.ofNat d::bytesOf l:=by simp [drawn,bytesOf]
    have E:isNeg (strB (UInt8.ofNat d::bytesOf l))=false:=by
     unfold isNeg; rw [strB_ext0]; simp [m]
    have u:dgs (strB (UInt8.ofNat d::bytesOf l))=strB (UInt8.ofNat d::bytesOf l):=by unfold dgs; rw [E]; rfl
    have A:(strB (UInt8.ofNat d::bytesOf l)).data.toList=UInt8.ofNat d::bytesOf l:=by simp [strB]
    have t:(strB (UInt8.ofNat d::bytesOf l)).size=l.length+1:=by rw [strB_size]; simp [bytesOf]
    rw [D]; refine ⟨?_,?_⟩
    ·unfold isIntB; rw [u,A,t]; have h3:(UInt8.ofNat d::bytesOf l).all isDig=true:=by simpa [bytesOf] using i
     rw [h3]; have:l.length+1≤2500:=by simpa using h2
     simp [this,j]
    ·rw [ByteArray.toList_eq,A]; simp [j]
   ·have D:bytesOf (drawn true (d::l))=45::UInt8.ofNat d::bytesOf l:=by simp [drawn,bytesOf]
    have E:isNeg (strB (45::UInt8.ofNat d::bytesOf l))=true:=by
     unfold isNeg; rw [strB_ext0]; rfl
    have u:(dgs (strB (45::UInt8.ofNat d::bytesOf l))).data.toList=UInt8.ofNat d::bytesOf l:=by
     unfold dgs; rw [E]; exact strB_ext1 45 _
    have t:(dgs (strB (45::UInt8.ofNat d::bytesOf l))).size=l.length+1:=by
     have h5:(dgs (strB (45::UInt8.ofNat d::bytesOf l))).data.toList.length=(dgs (strB (45::UInt8.ofNat d::bytesOf l))).size:=by simp
     rw [← h5,u]; simp [bytesOf]
    have A:(strB (45::UInt8.ofNat d::bytesOf l)).data.toList=45::UInt8.ofNat d::bytesOf l:=by simp [strB]
    rw [D]; refine ⟨?_,?_⟩
    ·unfold isIntB; rw [u,t]; have h3:(UInt8.ofNat d::bytesOf l).all isDig=true:=by simpa [bytesOf] using i
     rw [h3]; have:l.length+1≤2500:=by simpa using h2
     simp [this,j]
    ·rw [ByteArray.toList_eq,A]; simp
theorem IsL.bar {B g:Nat} {w w':World} {v:Value} {l:List Nat} (h:IsL B w v l) (hb:Bar g w w') (hg:g<B):IsL B w' v l:=by
 obtain ⟨a,cap,rfl,hl,j,t,D⟩:=h; refine ⟨a,cap,rfl,hl,j,t,?_⟩
 rcases D with rfl|⟨b,s,rfl,u,m,A⟩
 ·exact .inl rfl
 refine .inr ⟨b,s,rfl,u,Nat.lt_of_lt_of_le m hb.size,fun i hi=>?_⟩; rw [hb.cell (p:=⟨b,s+i,none⟩) m (by show b≠g; omega)]; exact A i hi
theorem NumZ.bar {B g:Nat} {w w':World} {z:Value} {x:Int} {n:Nat} (h:NumZ B w z x n) (hb:Bar g w w') (hg:g<B):NumZ B w' z x n:=by
 obtain ⟨neg,t,⟨i,j,h3⟩,e,hl⟩:=h; refine ⟨neg,t,⟨i,j,?_⟩,e,hl⟩
 rcases h3 with ⟨h3,v,rfl,m⟩|h3
 ·exact .inl ⟨h3,v,rfl,m.bar hb hg⟩
 exact .inr h3
theorem digX_any (g N k n:Nat) (x:Int) (w:World) (h:IsCur g N w k) (hx:x=(n:Nat)) (hk:k≤1000000000) (hn:1≤n) (hn2:n≤2500) :
 Calls Tryz.prog 64 #[.pointer (some ⟨g,0,none⟩),.int .i64 x] w fun e w'=>∃ (u:ByteArray) (k':Nat),e=.returned (.string u)∧isIntB u=true∧numT u≠0∧k'≤k+6010∧IsCur g N w' k'∧Bar g w w':=by
 subst hx; refine (digits_any g N k n w h hk hn (by omega)).mono ?_; rintro e w' ⟨s,j,k',rfl,D,m,h3,h4,h5,t⟩; obtain ⟨i,A⟩:=drawn_int s j m h3 (by omega); exact ⟨_,k',rfl,i,zero_text _ i A,by omega,h5,t⟩
theorem low_bd {x y a b:Int} {k:Nat} (h:IsLow x y a b) (hx:x.natAbs<lb k) (hy:y.natAbs<lb k):a.natAbs<lb k∧b.natAbs<lb k:=by
 obtain ⟨c,c0,m,s,_⟩:=h; have i:=abs_le_mul a c c0; have j:=abs_le_mul b c c0; rw [← m] at i; rw [← s] at j; exact ⟨Nat.lt_of_le_of_lt i hx,Nat.lt_of_le_of_lt j hy⟩
theorem l2TextS_any (B:Nat) (z:Value) (x y:Int) (w:World) (hBw:B≤w.heap.size) (h:IsQN B w z x y) (hx:x.natAbs<lb 600) (hy:y.natAbs<lb 600) :
 Calls Tryz.prog 18 #[z] w fun e w'=>∃ u:ByteArray,e=.returned (.string u)∧u.size≤12001∧Up w w':=by
 have G:=h; obtain ⟨I,M,J,L,K,O,U,Q,T,S,rfl,⟨t,t1,i,D,_⟩,A,t2,j,E,_⟩:=h; have m:t1.length≤600:=len_lt t1 i.2.1 600 (by rw [← D,sg_abs] at hx; exact hx); have s:t2.length≤600:=len_lt t2 j.2.1 600 (by rw [← E,sg_abs] at hy; exact hy); refine (l2Text_any B I M J L K O U Q T S t A t1 t2 x y w hBw G i j m s).mono ?_; rintro e w' ⟨rfl,H⟩; refine ⟨_,rfl,?_,H⟩; have s1:=full_sz (negOf t t1) t1 m; have s2:=full_sz (negOf A t2) t2 s; have F:(⟨#[47]⟩:ByteArray).size=1:=rfl
 split
 ·omega
 rw [ByteArray.size_append,ByteArray.size_append]; omega
theorem rat_any (g N k:Nat) (w:World) (h:IsCur g N w k) (hk:k≤10000000) :
 Calls Tryz.prog 33 #[.pointer (some ⟨g,0,none⟩)] w fun e w'=>∃ (u:ByteArray) (k':Nat),e=.returned (.string u)∧u.size≤14000∧k'≤k+10000∧IsCur g N w' k'∧Bar g w w':=by
 have HC:=Hd h; have M:=h.1; have p3:=h.2.1; clear h
 go_enter Tryz.func33,Tryz.ntmps33
 go_wp2_with fail
 refine (pick_any g N k 3 _ HC.o (by omega) (by decide) (by decide)).mono ?_; rintro e w1 ⟨r1,k1,rfl,u2,t6,e8,j5⟩; have i3:=Hd e8; have g7:=Hd j5; clear e8 j5
 by_cases h0:r1=0
 ·have z0:((r1:Int)==0)=true:=by rw [beq_iff_eq]; omega
  go_wp2_with fail
  refine (number_any g N k1 _ i3.o (by omega)).mono ?_; rintro e w2 ⟨u,k2,rfl,hu,p4,H,b3⟩; have G:=Hd H; have b6:=Hd (g7.o.trans b3); clear H b3
  go_wp2
  go_ret
  exact ⟨u,k2,rfl,by omega,by omega,G.o,b6.o⟩
 have z0:((r1:Int)==0)=false:=by rw [beq_eq_false_iff_ne]; omega
 go_wp2_with fail
 refine (pick_any g N k1 41 _ i3.o (by omega) (by decide) (by decide)).mono ?_; rintro e w2 ⟨r2,k2,rfl,u5,p4,H,b3⟩; have G:=Hd H; have b6:=Hd (g7.o.trans b3); clear H b3 z0 h0
 go_wp2_with fail
 refine (l1Small_any _ _ (by omega) (by omega)).mono ?_; rintro e w3 ⟨zp,rfl,O,c7⟩; obtain ⟨p0,pn,pa,pl,pc,rfl⟩:=O.isN.shape; obtain ⟨W3,b9⟩:=exW (w3.alloc (.cells #[.int .i64 p0,.bool pn,.slice pa pl pc] 49)); have o6:=Hd b9; have e4:Up w3 W3:=by rw [← b9]; exact below_alloc _ _
 have a8:Up w2 W3:=c7.trans (e4.mono c7.size); have j2:Hid (Bx W3 w3.heap.size [.int .i64 p0,.bool pn,.slice pa pl pc]):=by show Bx _ _ _; rw [← b9]; exact bx_new w3 _ _
 have HP:=Hd ((O.below e4).mono (B':=N) G.o.2.1); have n5:=Hd (G.o.below (a8.mono G.o.2.1)); have n1:=Hd (b6.o.trans (Bar.of a8)); have a5:Hid (g≠w3.heap.size∧w.heap.size≤w3.heap.size):=by have h1:=G.o.1; have h2:=G.o.2.1; have h3:=c7.size; have h4:=b6.o.size; exact ⟨by omega,by omega⟩
 clear O c7 b9 e4 a8; obtain ⟨bp,e6⟩:=exW w3.heap.size; rw [e6] at j2 a5; have n3:=Hd e6; clear e6
 go_upto_region 4 with fail
 rw [o6.o,n3.o]
 go_wp2_with fail
 refine (pick_any g N k2 12 _ n5.o (by omega) (by decide) (by decide)).mono ?_; rintro e w4 ⟨r4,k4,rfl,u6,t7,k0,c8⟩; have Z:=Hd k0; have g9:=Hd (n1.o.trans c8); have a6:=Hd (j2.o.bar c8 (fun e=>a5.o.1 e.symm)); have o0:=Hd (HP.o.bar c8 M); clear k0 c8
 go_wp2_with fail
 refine (l1Small_any _ _ (by omega) (by omega)).mono ?_; rintro e w5 ⟨zq,rfl,Q,c9⟩; obtain ⟨q0,qn,qa,ql,qc,rfl⟩:=Q.isN.shape; obtain ⟨W5,c6⟩:=exW (w5.alloc (.cells #[.int .i64 q0,.bool qn,.slice qa ql qc] 49)); have o7:=Hd c6; have e5:Up w5 W5:=by rw [← c6]; exact below_alloc _ _
 have E:Up w4 W5:=c9.trans (e5.mono c9.size); have j4:Hid (Bx W5 w5.heap.size [.int .i64 q0,.bool qn,.slice qa ql qc]):=by show Bx _ _ _; rw [← c6]; exact bx_new w5 _ _
 have j3:=Hd (a6.o.below a6.o.lt E); have o4:=Hd ((Q.below e5).mono (B':=N) Z.o.2.1); have o3:=Hd (o0.o.below E); have n6:=Hd (Z.o.below (E.mono Z.o.2.1)); have n2:=Hd (g9.o.trans (Bar.of E)); have J:Hid (g≠w5.heap.size∧w.heap.size≤w5.heap.size∧bp≠w5.heap.size):=by have h1:=Z.o.1; have h2:=Z.o.2.1; have h3:=c9.size; have h4:=g9.o.size; have h5:=a6.o.lt; exact ⟨by omega,by omega,by omega⟩
 have j1:Hid (((r2:Int) - 20).natAbs<lb 600):=lb_le 1 600 (by decide) (by unfold lb; omega); obtain ⟨bq,e7⟩:=exW w5.heap.size; rw [e7] at j4 J; have n4:=Hd e7; clear Q c9 c6 e5 E e7
 go_upto_region 5 with fail
 rw [o7.o,n4.o]
 go_wp2_with fail
 refine (pick_any g N k4 8 _ n6.o (by omega) (by decide) (by decide)).mono ?_; rintro e w6 ⟨r6,k6,rfl,u7,t8,k5,K⟩; have a3:=Hd k5; have h8:=Hd (n2.o.trans K); have j:=Hd (j3.o.bar K (fun e=>a5.o.1 e.symm)); have m:=Hd (j4.o.bar K (fun e=>J.o.1 e.symm)); have i6:=Hd (o3.o.bar K M); have i9:=Hd (o4.o.bar K M); clear k5 K
 by_cases h6:r6=0
 ·have z6:((r6:Int)==0)=true:=by rw [beq_iff_eq]; omega
  clear h6; obtain ⟨np,tp,O,_,p5⟩:=i6.o; obtain ⟨nq,tq,Q,_,p6⟩:=i9.o; have T1:Hid (∀ W,Up w6 W→Calls Tryz.prog 43 #[.agg #[.int .i64 p0,.bool pn,.slice pa pl pc]] W (fun e w'=>e=.returned (.string (fullT (negOf np tp) tp))∧Up W w')):=fun W hW=>l1Text_any N _ np tp W (O.below hW) (Nat.le_trans a3.o.2.1 hW.size) (by omega); have T2:Hid (∀ W,Up w6 W→Calls Tryz.prog 43 #[.agg #[.int .i64 q0,.bool qn,.slice qa ql qc]] W (fun e w'=>e=.returned (.string (fullT (negOf nq tq) tq))∧Up W w')):=fun W hW=>l1Text_any N _ nq tq W (Q.below hW) (Nat.le_trans a3.o.2.1 hW.size) (by omega); have p7:=full_sz (negOf np tp) tp (by omega); have p8:=full_sz (negOf nq tq) tq (by omega); obtain ⟨f1,l3⟩:∃ f,fullT (negOf np tp) tp=f:=⟨_,rfl⟩; obtain ⟨f2,l4⟩:∃ f,fullT (negOf nq tq) tq=f:=⟨_,rfl⟩; rw [l3] at T1 p7; rw [l4] at T2 p8; have t3:(⟨#[47]⟩:ByteArray).size=1:=rfl; have e8:(f1++(⟨#[47]⟩:ByteArray)).size≤7000:=by rw [ByteArray.size_append]; omega
  have H:(f1++(⟨#[47]⟩:ByteArray)++f2).size≤14000:=by rw [ByteArray.size_append]; omega
  have HS:Hid (∀ W,Up w6 W→W.cell? ⟨bp,0,none⟩=some (.int .i64 p0)∧W.cell? ⟨bp,1,none⟩=some (.bool pn)∧W.cell? ⟨bp,2,none⟩=some (.slice pa pl pc)∧W.cell? ⟨bq,0,none⟩=some (.int .i64 q0)∧W.cell? ⟨bq,1,none⟩=some (.bool qn)∧W.cell? ⟨bq,2,none⟩=some (.slice qa ql qc)):=fun W hW=>⟨(j.o.below j.o.lt hW).cell 0,(j.o.below j.o.lt hW).cell 1,(j.o.below j.o.lt hW).cell 2,(m.o.below m.o.lt hW).cell 0,(m.o.below m.o.lt hW).cell 1,(m.o.below m.o.lt hW).cell 2⟩; obtain ⟨a0,a1,a2,b0,b1,b2⟩:=HS.o w6 (Below.refl _ _); clear l3 l4 O Q p5 p6
  go_wp2_with fail
  go_region_with (first
   | (go_at_call_of 43 (Value.int IntKind.i64 p0)
      refine (T1.o _ ?_).mono ?_
      ·exact (Below.refl _ w6).drew
      rintro e wa ⟨rfl,j8⟩; have b7:Hid (Up w6 wa):=(Below.refl _ w6).drew.trans j8; obtain ⟨_,_,_,m3,m4,m5⟩:=HS.o wa b7.o; clear j8)
   | (go_at_call_of 43 (Value.int IntKind.i64 q0)
      refine (T2.o _ ?_).mono ?_
      ·exact b7.o
      rintro e wb ⟨rfl,j9⟩; have i2:=Hd (b7.o.trans (j9.mono b7.o.size)); clear j9))
  all_goals
   go_wp2
   go_ret
   exact ⟨_,k6,rfl,H,by omega,a3.o.below (i2.o.mono a3.o.2.1),h8.o.trans (Bar.of i2.o)⟩
 have z6:((r6:Int)==0)=false:=by rw [beq_eq_false_iff_ne]; omega
 clear h6
 go_wp2_with fail
 refine (pick_any g N k6 8 _ a3.o (by omega) (by decide) (by decide)).mono ?_; rintro e w7 ⟨r7,k7,rfl,u9,t9,l0,L⟩; have b8:=Hd l0; have h9:=Hd (h8.o.trans L); have d5:=Hd (j.o.bar L (fun e=>a5.o.1 e.symm)); have d6:=Hd (m.o.bar L (fun e=>J.o.1 e.symm)); have i7:=Hd (i6.o.bar L M); have o5:=Hd (i9.o.bar L M); clear l0 L z6
 by_cases h7:r7=0
 ·have z7:((r7:Int)==0)=true:=by rw [beq_iff_eq]; omega
  clear h7
  go_wp2_with fail
  refine (pick_any g N k7 25 _ b8.o (by omega) (by decide) (by decide)).mono ?_; rintro e w8 ⟨r8,k8,rfl,v0,u0,l1,j6⟩; have n7:=Hd l1; have i0:=Hd j6; clear l1 j6
  go_wp2_with fail
  refine (digX_any g N k8 (1+r8) _ _ n7.o (by push_cast; rfl) (by omega) (by omega) (by omega)).mono ?_; rintro e w9 ⟨v,k9,rfl,hi,l5,u1,l2,j7⟩; have HI:=Hd hi; have n9:=Hd l5; have d8:=Hd l2; have i1:=Hd (i0.o.trans j7); clear hi l5 l2 j7
  go_wp2_with fail
  refine (l1Read_any v _ HI.o).mono ?_; rintro e I ⟨z,rfl,hz,a9⟩; obtain ⟨t0,tn,ta,tl,tc,rfl⟩:=hz.shape; have D:Hid (Bar g w7 I):=i1.o.trans (Bar.of a9); have i4:=Hd (d8.o.below (a9.mono d8.o.2.1)); have l7:=d5.o.bar D.o (fun e=>a5.o.1 e.symm); have b5:=d6.o.bar D.o (fun e=>J.o.1 e.symm); have b4:NoInt I bq:=noInt_of b5 (by simp); have e9:=Keeps.three I bq (.int .i64 t0) (.bool tn) (.slice ta tl tc); obtain ⟨a7,s⟩:=exW (((I.setCell ⟨bq,0,none⟩ (.int .i64 t0)).setCell ⟨bq,1,none⟩ (.bool tn)).setCell ⟨bq,2,none⟩ (.slice ta tl tc)); have j0:=Hd s; have i5:Hid (NumZ N a7 (.agg #[.int .i64 p0,.bool pn,.slice pa pl pc]) ((r2:Int) - 20) 3):=by
   have h2:=(i7.o.bar D.o M).keeps b4 b4 e9; rw [s] at h2; exact h2
  have i8:Hid (NumZ N a7 (.agg #[.int .i64 t0,.bool tn,.slice ta tl tc]) (numT v) 280):=by
   have h1:NumZ N I (.agg #[.int .i64 t0,.bool tn,.slice ta tl tc]) (numT v) 280:=⟨_,_,hz.mono d8.o.2.1,rfl,lim_len' v HI.o⟩; have h2:=h1.keeps b4 b4 e9; rw [s] at h2; exact h2
  have d0:=belowSet3 (Below.refl w.heap.size I) bq J.o.2.1 (.int .i64 t0) (.bool tn) (.slice ta tl tc); rw [s] at d0; have V:=Hd (i4.o.below (d0.mono p3)); have g8:Hid (Bar g w a7):=(h9.o.trans D.o).then d0; have e0:Hid (Bx a7 bp [.int .i64 p0,.bool pn,.slice pa pl pc]):=by
   have h:=off3 l7 (k:=bq) (fun e=>J.o.2.2 e.symm) (.int .i64 t0) (.bool tn) (.slice ta tl tc); rw [s] at h; exact h
  have e1:Hid (Bx a7 bq [.int .i64 t0,.bool tn,.slice ta tl tc]):=by
   have h:Bx (((I.setCell ⟨bq,0,none⟩ (.int .i64 t0)).setCell ⟨bq,1,none⟩ (.bool tn)).setCell ⟨bq,2,none⟩ (.slice ta tl tc)) bq [.int .i64 t0,.bool tn,.slice ta tl tc]:=((b5.set 0 _).set 1 _).set 2 _; rw [s] at h; exact h
  have HY:Hid (numT v≠0):=n9.o; have e2:Hid ((numT v).natAbs<lb 600):=lb_le 280 600 (by decide) (numT_lt v HI.o); obtain ⟨c0,c1,c2⟩:=b5.k3; obtain ⟨x0,x1,x2⟩:=b5.f3; clear hz a9 l7 b5 b4 e9 s d0; obtain ⟨a0,a1,a2⟩:=e0.o.k3; obtain ⟨b0,b1,b2⟩:=e1.o.k3
  go_upto_region 9 with fail
  rw [j0.o]
  go_wp2_with fail
  refine (l2Make_any N _ _ _ _ _ V.o.2.1 (numZ_le i5.o (by omega)) (numZ_le i8.o (by omega)) HY.o).mono ?_; rintro e q1 ⟨z,x,y,rfl,hq,F,t⟩; have d9:=Hd hq; have U:=Hd (low_bd F j1.o e2.o); have S:=Hd (g8.o.trans (Bar.of t)); have i:=Hd (V.o.below (t.mono V.o.2.1)); clear hq F t a0 a1 a2 b0 b1 b2
  go_wp2_with fail
  refine (l2TextS_any N z x y _ i.o.2.1 d9.o U.o.1 U.o.2).mono ?_; rintro e q2 ⟨u,rfl,hu,A⟩; have T:=Hd (S.o.trans (Bar.of A)); have Y:=Hd (i.o.below (A.mono i.o.2.1)); clear A
  go_wp2
  go_ret
  exact ⟨u,k9,rfl,by omega,by omega,Y.o,T.o⟩
 have z7:((r7:Int)==0)=false:=by rw [beq_eq_false_iff_ne]; omega
 have HY:Hid (1+(r4:Int)≠0):=by unfold Hid; omega
 have e2:Hid ((1+(r4:Int)).natAbs<lb 600):=lb_le 1 600 (by decide) (by unfold lb; omega); clear h7; obtain ⟨a0,a1,a2⟩:=d5.o.k3; obtain ⟨b0,b1,b2⟩:=d6.o.k3
 go_wp2_with fail
 refine (l2Make_any N _ _ _ _ _ b8.o.2.1 (numZ_le i7.o (by omega)) (numZ_le o5.o (by omega)) HY.o).mono ?_; rintro e q1 ⟨z,x,y,rfl,hq,F,t⟩; have d9:=Hd hq; have U:=Hd (low_bd F j1.o e2.o); have S:=Hd (h9.o.trans (Bar.of t)); have i:=Hd (b8.o.below (t.mono b8.o.2.1)); clear hq F t a0 a1 a2 b0 b1 b2
 go_wp2_with fail
 refine (l2TextS_any N z x y _ i.o.2.1 d9.o U.o.1 U.o.2).mono ?_; rintro e q2 ⟨u,rfl,hu,A⟩; have T:=Hd (S.o.trans (Bar.of A)); have Y:=Hd (i.o.below (A.mono i.o.2.1)); clear A
 go_wp2
 go_ret
 exact ⟨u,k7,rfl,by omega,by omega,Y.o,T.o⟩
end Go.Proofs.YtnhbmpnhijgpmaaGreatDoor
