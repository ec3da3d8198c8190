import Derived.Test.YtnhbmpnhijgpmaaGreatDoorM1p
import Derived.Deep.QuietTactic
import Derived.BigQuiet
import Derived.WalkSmall
import Derived.Maps.AppendAt
import Derived.OneCell
set_option maxRecDepth 100000
set_option maxHeartbeats 1000000
namespace Go.Proofs.YtnhbmpnhijgpmaaGreatDoor
open Go.ChangeShapes Go.WideShapes Go.ChangeAt Go.RowKit
def cmpTop (a b:List Nat):Nat→Int
 | 0=>0
 | k+1=>if a.getD k 0<b.getD k 0 then -1 else if b.getD k 0<a.getD k 0 then 1 else cmpTop a b k
def cmpL (a b:List Nat):Int:=if a.length<b.length then -1 else if b.length<a.length then 1 else cmpTop a b a.length
theorem IsL.cells {B:Nat} {w:World} {a:Option Addr} {cap n:Nat} {l:List Nat} (h:IsL B w (.slice a n cap) l):n=l.length∧l.length≤cap∧cap≤maxLen∧okL l ∧
 ∀ i,i<l.length→∃ b off,a=some ⟨b,off,none⟩∧b<w.heap.size∧w.cell? ⟨b,off+i,none⟩=some (.int .u32 (l.getD i 0:Nat)):=by
 obtain ⟨E,s,t,hl,j,m,D⟩:=h; simp only [Value.slice.injEq] at t; obtain ⟨rfl,rfl,rfl⟩:=t; refine ⟨rfl,hl,j,m,fun i hi=>?_⟩
 rcases D with rfl|⟨b,off,rfl,_,u,A⟩
 ·simp at hi
 exact ⟨b,off,rfl,u,A i hi⟩
theorem compareLimbs_any (B:Nat) (va vb:Value) (a b:List Nat) (w:World) (ha:IsL B w va a) (hb:IsL B w vb b) :
 Calls Tryz.prog 101 #[va,vb] w fun e w'=>e=.returned (.int .i64 (cmpL a b))∧Up w w':=by
 obtain ⟨pa,ca,rfl,_⟩:=id ha; obtain ⟨pb,cb,rfl,_⟩:=id hb; obtain ⟨_,Z,I,F,m⟩:=ha.cells; obtain ⟨_,a3,J,G,s⟩:=hb.cells; unfold maxLen at I J; have U:=Hd m; have V:=Hd s; clear m s ha hb F G
 by_cases A:a.length=b.length
 ·have z:((a.length:Int) != b.length)=false:=by rw [bne_eq_false_iff_eq]; omega
  have t:Hid (cmpL a b=cmpTop a b a.length):=by show cmpL a b=_; unfold cmpL; rw [if_neg (by omega),if_neg (by omega)]
  have Q:=Hd A; clear A
  go_enter Tryz.func101,Tryz.ntmps101
  go_wp2
  go_loopw [5] (fun i wr=>∃ k:Nat,k≤a.length∧i=.int .i64 (k - 1)∧cmpTop a b a.length=cmpTop a b k∧Up w wr) (fun i _=>(intOf i+1).toNat)
  case atStart=>exact ⟨a.length,leR,rfl,rfl,Below.refl _ _⟩
  case round=>
   obtain ⟨k,hk,rfl,T,S⟩:=hrel; have H:=Hd T; have j:=Hd S; clear T S
   cases k with
   | zero=>
     go_wp2
     go_ret
     exact ⟨ret_int (by rw [t.o,H.o]; rfl),j.o⟩
   | succ k=>
     obtain ⟨W,oa,rfl,K,m⟩:=U.o k (by omega); obtain ⟨Y,ob,rfl,L,s⟩:=V.o k (by have:=Q.o; omega); rw [← j.o.cell (p:=⟨W,oa+k,none⟩) K] at m; rw [← j.o.cell (p:=⟨Y,ob+k,none⟩) L] at s; obtain ⟨x,M⟩:=exW (a.getD k 0); obtain ⟨y,O⟩:=exW (b.getD k 0); have u:Hid (cmpTop a b (k+1)=if x<y then -1 else if y<x then 1 else cmpTop a b k):=by rw [← M,← O]; rfl
     rw [M] at m; rw [O] at s; have a5:k<b.length:=by have:=Q.o; omega
     clear M O
     by_cases A:x<y
     ·have D:Hid (cmpTop a b (k+1) = -1):=u.o.trans (if_pos A); clear u
      go_wp2
      go_quiet (fail)
      go_wp2
      go_ret
      exact ⟨ret_int (by rw [t.o,H.o,D.o]),below_drewN j.o _⟩
     ·by_cases E:y<x
      ·have D:Hid (cmpTop a b (k+1)=1):=u.o.trans ((if_neg A).trans (if_pos E)); clear u
       go_wp2
       go_quiet (fail)
       go_wp2
       go_quiet (fail)
       go_wp2
       go_ret
       exact ⟨ret_int (by rw [t.o,H.o,D.o]),below_drewN (below_drewN j.o _) _⟩
      ·have D:Hid (cmpTop a b (k+1)=cmpTop a b k):=u.o.trans ((if_neg A).trans (if_neg E)); clear u
       go_wp2
       go_quiet (fail)
       go_wp2
       go_quiet (fail)
       go_wp2
       go_roundw
       case rel=>exact ⟨k,by omega,val_int (by omega),H.o.trans D.o,below_drewN j.o _⟩
       case measure=>simp [intOf]
 have z:((a.length:Int) != b.length)=true:=by rw [bne_iff_ne]; omega
 by_cases E:a.length<b.length
 ·have t:Hid (cmpL a b = -1):=if_pos E
  go_enter Tryz.func101,Tryz.ntmps101
  go_wp2
  go_ret
  exact ⟨ret_int t.o.symm,Below.refl _ _⟩
 have t:Hid (cmpL a b=1):=(if_neg E).trans (if_pos (by omega))
 go_enter Tryz.func101,Tryz.ntmps101
 go_wp2
 go_ret
 exact ⟨ret_int t.o.symm,Below.refl _ _⟩
theorem l1CmpD_any (B:Nat) (va vb:Value) (a b:List Nat) (w:World) (ha:IsL B w va a) (hb:IsL B w vb b) :
 Calls Tryz.prog 61 #[va,vb] w fun e w'=>e=.returned (.int .i64 (cmpL a b))∧Up w w':=by
 obtain ⟨pa,ca,rfl,_⟩:=id ha; obtain ⟨pb,cb,rfl,_⟩:=id hb; obtain ⟨_,Z,I,F,m⟩:=ha.cells; obtain ⟨_,a3,J,G,s⟩:=hb.cells; unfold maxLen at I J; have U:=Hd m; have V:=Hd s; clear m s ha hb F G
 by_cases A:a.length=b.length
 ·have z:((a.length:Int) != b.length)=false:=by rw [bne_eq_false_iff_eq]; omega
  have t:Hid (cmpL a b=cmpTop a b a.length):=by show cmpL a b=_; unfold cmpL; rw [if_neg (by omega),if_neg (by omega)]
  have Q:=Hd A; clear A
  go_enter Tryz.func61,Tryz.ntmps61
  go_wp2
  go_loopw [5] (fun i wr=>∃ k:Nat,k≤a.length∧i=.int .i64 (k - 1)∧cmpTop a b a.length=cmpTop a b k∧Up w wr) (fun i _=>(intOf i+1).toNat)
  case atStart=>exact ⟨a.length,leR,rfl,rfl,Below.refl _ _⟩
  case round=>
   obtain ⟨k,hk,rfl,T,S⟩:=hrel; have H:=Hd T; have j:=Hd S; clear T S
   cases k with
   | zero=>
     go_wp2
     go_ret
     exact ⟨ret_int (by rw [t.o,H.o]; rfl),j.o⟩
   | succ k=>
     obtain ⟨W,oa,rfl,K,m⟩:=U.o k (by omega); obtain ⟨Y,ob,rfl,L,s⟩:=V.o k (by have:=Q.o; omega); rw [← j.o.cell (p:=⟨W,oa+k,none⟩) K] at m; rw [← j.o.cell (p:=⟨Y,ob+k,none⟩) L] at s; obtain ⟨x,M⟩:=exW (a.getD k 0); obtain ⟨y,O⟩:=exW (b.getD k 0); have u:Hid (cmpTop a b (k+1)=if x<y then -1 else if y<x then 1 else cmpTop a b k):=by rw [← M,← O]; rfl
     rw [M] at m; rw [O] at s; have a5:k<b.length:=by have:=Q.o; omega
     clear M O
     by_cases A:x<y
     ·have D:Hid (cmpTop a b (k+1) = -1):=u.o.trans (if_pos A); clear u
      go_wp2
      go_quiet (fail)
      go_wp2
      go_ret
      exact ⟨ret_int (by rw [t.o,H.o,D.o]),below_drewN j.o _⟩
     ·by_cases E:y<x
      ·have D:Hid (cmpTop a b (k+1)=1):=u.o.trans ((if_neg A).trans (if_pos E)); clear u
       go_wp2
       go_quiet (fail)
       go_wp2
       go_quiet (fail)
       go_wp2
       go_ret
       exact ⟨ret_int (by rw [t.o,H.o,D.o]),below_drewN (below_drewN j.o _) _⟩
      ·have D:Hid (cmpTop a b (k+1)=cmpTop a b k):=u.o.trans ((if_neg A).trans (if_neg E)); clear u
       go_wp2
       go_quiet (fail)
       go_wp2
       go_quiet (fail)
       go_wp2
       go_roundw
       case rel=>exact ⟨k,by omega,val_int (by omega),H.o.trans D.o,below_drewN j.o _⟩
       case measure=>simp [intOf]
 have z:((a.length:Int) != b.length)=true:=by rw [bne_iff_ne]; omega
 by_cases E:a.length<b.length
 ·have t:Hid (cmpL a b = -1):=if_pos E
  go_enter Tryz.func61,Tryz.ntmps61
  go_wp2
  go_ret
  exact ⟨ret_int t.o.symm,Below.refl _ _⟩
 have t:Hid (cmpL a b=1):=(if_neg E).trans (if_pos (by omega))
 go_enter Tryz.func61,Tryz.ntmps61
 go_wp2
 go_ret
 exact ⟨ret_int t.o.symm,Below.refl _ _⟩
def sg (neg:Bool) (n:Nat):Int:=if neg then -(n:Int) else n
def IsZ (B:Nat) (w:World) (z:Value) (neg:Bool) (t:List Nat):Prop:=
 okL t∧isTrim t∧((2<t.length∧∃ v,z=.agg #[.int .i64 0,.bool neg,v]∧IsL B w v t) ∨
 (t.length≤2∧z=.agg #[.int .i64 (sg neg (val t)),.bool false,.slice none 0 0]))
theorem IsZ.below {B:Nat} {w w':World} {z:Value} {neg:Bool} {t:List Nat} (h:IsZ B w z neg t) (hb:Up w w'):IsZ B w' z neg t:=by
 obtain ⟨i,j,h3⟩:=h; refine ⟨i,j,?_⟩
 rcases h3 with ⟨h3,v,rfl,m⟩|h3
 ·exact .inl ⟨h3,v,rfl,m.below hb⟩
 exact .inr h3
def vfrom (l:List Nat) (i:Nat):Nat:=val (l.drop i)
theorem vfrom_step (l:List Nat) (i:Nat) (h:i<l.length):vfrom l i=vfrom l (i+1)*1000000000+l.getD i 0:=by
 unfold vfrom; rw [List.drop_eq_getElem_cons h]; simp only [val,List.getD_eq_getElem?_getD,List.getElem?_eq_getElem h,Option.getD_some]; omega
theorem vfrom_end (l:List Nat):vfrom l l.length=0:=by unfold vfrom; rw [List.drop_length]; rfl
theorem vfrom_lt (l:List Nat) (hok:okL l) (i:Nat) (h:l.length≤i+2):vfrom l i<1000000000000000000:=by
 unfold vfrom; have j:okL (l.drop i):=fun x hx=>hok x (List.mem_of_mem_drop hx); have m:(l.drop i).length≤2:=by rw [List.length_drop]; omega
 match hl:l.drop i,m with
 | [],_=>simp [val]
 | [a],_=>have:=j a (by rw [hl]; simp); simp [val]; omega
 | [a,b],_=>have:=j a (by rw [hl]; simp); have:=j b (by rw [hl]; simp); simp [val]; omega
def mkZ (neg:Bool) (a:Option Addr) (cap:Nat) (t:List Nat):Value:=
 if 2<t.length then .agg #[.int .i64 0,.bool neg,.slice a t.length cap] else .agg #[.int .i64 (sg neg (val t)),.bool false,.slice none 0 0]
theorem mkZ_big {neg:Bool} {a:Option Addr} {cap:Nat} {t:List Nat} (h:2<t.length):mkZ neg a cap t=.agg #[.int .i64 0,.bool neg,.slice a t.length cap]:=if_pos h
theorem mkZ_small {neg:Bool} {a:Option Addr} {cap:Nat} {t:List Nat} (h:¬ 2<t.length):mkZ neg a cap t=.agg #[.int .i64 (sg neg (val t)),.bool false,.slice none 0 0]:=if_neg h
theorem l1Make_row (neg:Bool) (b off cap:Nat) (l:List Nat) (w:World) (hl:l.length≤cap) (hcap:cap≤maxLen) (hok:okL l) (hb:b<w.heap.size)
 (hc:∀ i,i<l.length→w.cell? ⟨b,off+i,none⟩=some (.int .u32 (l.getD i 0:Nat))) :
 Calls Tryz.prog 65 #[.bool neg,.slice (some ⟨b,off,none⟩) l.length cap] w fun e w'=>
  e=.returned (mkZ neg (some ⟨b,off,none⟩) cap (trimL l))∧Up w w':=by
 unfold maxLen at hcap; have S:Hid (∀ o,∀ i,i<l.length→(w.alloc o).cell? ⟨b,off+i,none⟩=some (.int .u32 (l.getD i 0:Nat))):=fun o i hi=>by rw [World.cell?_alloc_past _ _ _ hb]; exact hc i hi
 clear hc
 go_enter Tryz.func65,Tryz.ntmps65
 go_wp2
 go_loop [5] (fun n=>∃ k:Nat,k≤l.length∧n=.int .i64 k∧trimL (l.take k)=trimL l) (fun n=>(intOf n).toNat)
 case atStart=>exact ⟨l.length,leR,rfl,by rw [List.take_length]⟩
 case round=>
  obtain ⟨k,hk,rfl,V⟩:=hrel; have K:=Hd V; clear V
  cases k with
  | zero=>
    have H:Hid (trimL l=[]):=by rw [← K.o]; rfl
    cases neg
    all_goals
     go_wp2
     refine wp_loop_rounds 1 ?_; rw [rounds_succ]
     go_wp2
     refine bodyPost_ret (v:=.agg #[.int .i64 0,.bool false,.slice none 0 0]) ?_ rfl ⟨?_,below_alloc _ _⟩
     ·simp [results,Tryz.results65,go_sem]
     ·rw [H.o,mkZ_small (by simp)]; simp [sg,val]
  | succ m=>
    obtain ⟨x,Q⟩:=exW (l.getD m 0); have s:=fun o=>S.o o m (by omega); simp only [Q] at s; have T:=Hd Q; clear Q
    by_cases F:x=0
    ·have hz:((x:Int)==0)=true:=by rw [beq_iff_eq]; omega
     have H:Hid (trimL (l.take m)=trimL l):=by rw [← trimL_take_zero l m (by omega) (by rw [T.o,F])]; exact K.o
     clear F
     go_wp2
     go_round
     case rel=>exact ⟨m,by omega,val_int (by omega),H.o⟩
     case measure=>simp [intOf]
    ·have hz:((x:Int)==0)=false:=by rw [beq_eq_false_iff_ne]; omega
     have Y:Hid (trimL l=l.take (m+1)):=K.o.symm.trans (trimL_take_pos l m (by omega) (by rw [T.o]; exact F)); have E:Hid ((trimL l).length=m+1):=by rw [Y.o,List.length_take]; exact Nat.min_eq_left (by omega)
     clear F
     by_cases U:2<m+1
     ·go_wp2
      refine bodyPost_ret (v:=.agg #[.int .i64 0,.bool neg,.slice (some ⟨b,off,none⟩) (m+1) cap]) ?_ rfl ⟨?_,below_alloc _ _⟩
      ·simp [results,Tryz.results65,go_sem]
      ·rw [mkZ_big (by rw [E.o]; exact U),E.o]
     ·have u:okL (trimL l):=trimL_ok l hok; have I:Hid (∀ i,i<m+1→l.getD i 0=(trimL l).getD i 0):=fun i hi=>(getD_trimL l i (by rw [E.o]; exact hi)).symm; obtain ⟨t,D⟩:=exW (trimL l); rw [D] at u; have M:=Hd D; have J:Hid (∀ i,i<m+1→l.getD i 0=t.getD i 0):=by rw [D] at I; exact I
      have A:Hid (t.length=m+1):=by rw [← D]; exact E.o
      clear I D hok
      cases neg
      all_goals
       go_wp2
       go_loop [6,7] (fun v i=>∃ j:Nat,j≤m+1∧i=.int .i64 (j - 1)∧v=.int .i64 (vfrom t j:Nat)) (fun _ i=>(intOf i+1).toNat)
       case atStart=>exact ⟨m+1,leR,val_int (by omega),by rw [← A.o,vfrom_end]; rfl⟩
       case round=>
        obtain ⟨j,hj,rfl,rfl⟩:=hrel
        cases j with
        | zero=>
          have W:=vfrom_lt t u 0 (by rw [A.o]; omega); have Z:Hid (vfrom t 0=val t):=rfl
          go_wp2
          refine bodyPost_ret ?_ rfl ⟨rfl,below_alloc _ _⟩; rw [M.o,mkZ_small (by rw [A.o]; exact U),← Z.o]; simp [results,Tryz.results65,go_sem,sg]
        | succ i=>
          have W:=vfrom_lt t u i (by rw [A.o]; omega); have L:Hid (vfrom t i=vfrom t (i+1)*1000000000+t.getD i 0):=vfrom_step t i (by rw [A.o]; omega); obtain ⟨y,G⟩:=exW (t.getD i 0); obtain ⟨q,O⟩:=exW (vfrom t (i+1)); have s:=fun o=>S.o o i (by omega); simp only [J.o i (by omega),G] at s; have a3:y<1000000000:=by
           rw [← G,List.getD_eq_getElem?_getD,List.getElem?_eq_getElem (by rw [A.o]; omega)]; exact u _ (List.getElem_mem _)
          rw [G,O] at L; rw [O]; rw [L.o] at W; clear G O
          go_wp2
          go_round
          case rel=>exact ⟨i,by omega,val_int (by omega),by rw [L.o]; exact val_int (by omega)⟩
          case measure=>simp [intOf]
theorem l1Make_none (neg:Bool) (a:Option Addr) (cap:Nat) (w:World) :
 Calls Tryz.prog 65 #[.bool neg,.slice a 0 cap] w fun e w'=>e=.returned (.agg #[.int .i64 0,.bool false,.slice none 0 0])∧Up w w':=by
 cases neg
 all_goals
  go_enter Tryz.func65,Tryz.ntmps65
  go_wp2
  refine wp_loop_rounds 1 ?_; rw [rounds_succ]
  go_wp2
  refine wp_loop_rounds 1 ?_; rw [rounds_succ]
  go_wp2
  refine bodyPost_ret (v:=.agg #[.int .i64 0,.bool false,.slice none 0 0]) ?_ rfl ⟨rfl,below_alloc _ _⟩; simp [results,Tryz.results65,go_sem]
theorem l1Make_any (B:Nat) (neg:Bool) (v:Value) (l:List Nat) (w:World) (h:IsL B w v l) :
 Calls Tryz.prog 65 #[.bool neg,v] w fun e w'=>∃ z,e=.returned z∧(∀ B W,IsL B W v l→IsZ B W z neg (trimL l))∧Up w w':=by
 obtain ⟨a,cap,rfl,hl,m,i,A⟩:=h
 rcases A with rfl|⟨b,t,rfl,_,j,u⟩
 ·refine (l1Make_none neg a cap w).mono ?_; rintro e w' ⟨rfl,j⟩; refine ⟨_,rfl,fun B W h=>⟨i,trimL_trim _,.inr ⟨by simp [trimL_nil],?_⟩⟩,j⟩; simp [trimL_nil,sg,val]
 refine (l1Make_row neg b t cap l w hl m i j u).mono ?_; rintro e w' ⟨rfl,j⟩; refine ⟨_,rfl,fun B W h=>⟨trimL_ok l i,trimL_trim _,?_⟩,j⟩
 by_cases s:2<(trimL l).length
 ·exact .inl ⟨s,_,mkZ_big s,IsL.cut B W h⟩
 exact .inr ⟨by omega,mkZ_small s⟩
theorem short_cases (t:List Nat) (h:t.length≤2) (hok:okL t) (htr:isTrim t) :
 t=[]∨(∃ a,t=[a]∧0<a∧a<1000000000)∨∃ a b,t=[a,b]∧a<1000000000∧0<b∧b<1000000000:=by
 match t,h with
 | [],_=>exact .inl rfl
 | [a],_=>
   have i:=hok a (by simp); have j:=htr (by simp); simp at j; exact .inr (.inl ⟨a,rfl,by omega,i⟩)
 | [a,b],_=>
   have i:=hok a (by simp); have h3:=hok b (by simp); have j:=htr (by simp); simp at j; exact .inr (.inr ⟨a,b,rfl,i,by omega,h3⟩)
theorem negOf_small (neg:Bool) (t:List Nat) (h2:t.length≤2) (hok:okL t) (htr:isTrim t):negOf neg t=decide (sg neg (val t)<0):=by
 rcases short_cases t h2 hok htr with rfl|⟨a,rfl,h3,h4⟩|⟨a,b,rfl,h3,h4,h5⟩
 ·cases neg<;>simp [negOf,sg,val]
 ·cases neg<;>simp [negOf,sg,val]<;>omega
 cases neg<;>simp [negOf,sg,val]<;>omega
theorem isL_one {w:World} {x:Int} (B e a g:Nat) (ha:a<1000000000) (hx:x=a) (hg:w.heap.size=g) (hB:B≤g):IsL B (w.alloc (.cells #[.int .u32 x] e)) (.slice (some ⟨g,0,none⟩) 1 1) [a]:=by
 subst hx; subst hg; exact ⟨_,1,rfl,by simp,by unfold maxLen; omega,fun x hx=>by simp at hx; omega,.inr ⟨w.heap.size,0,rfl,hB,by simp,fun i hi=>by
  match i,hi with
  | 0,_=>rw [World.cell?_alloc_at _ _ _ _ rfl]; rfl⟩⟩
theorem isL_two {w:World} {x y:Int} (B e a b g:Nat) (ha:a<1000000000) (hb:b<1000000000) (hx:x=a) (hy:y=b) (hg:w.heap.size=g) (hB:B≤g):IsL B (w.alloc (.cells #[.int .u32 x,.int .u32 y] e)) (.slice (some ⟨g,0,none⟩) 2 2) [a,b]:=by
 subst hx; subst hy; subst hg; exact ⟨_,2,rfl,by simp,by unfold maxLen; omega,fun x hx=>by simp at hx; omega,.inr ⟨w.heap.size,0,rfl,hB,by simp,fun i hi=>by
  match i,hi with
  | 0,_=>rw [World.cell?_alloc_at _ _ _ _ rfl]; rfl
  | 1,_=>rw [World.cell?_alloc_at _ _ _ _ rfl]; rfl⟩⟩
theorem l1Limbs_any (B:Nat) (z:Value) (neg:Bool) (t:List Nat) (w:World) (h:IsZ B w z neg t) (hB:B≤w.heap.size) :
 Calls Tryz.prog 62 #[z] w fun e w'=>∃ v,e=.returned v∧IsL B w' v t∧Up w w':=by
 obtain ⟨s,A,h⟩:=h
 rcases h with ⟨D,v,rfl,E⟩|⟨D,rfl⟩
 ·have G:=Hd E; obtain ⟨a,cap,rfl,hl,m,_,_⟩:=E; have L:0<t.length:=by omega
  unfold maxLen at m
  go_enter Tryz.func62,Tryz.ntmps62
  go_wp2
  go_ret
  exact ⟨_,rfl,G.o.below (below_alloc _ _),below_alloc _ _⟩
 rcases short_cases t D s A with rfl|⟨a,rfl,h3,h4⟩|⟨a,b,rfl,h3,h4,h5⟩
 ·cases neg
  all_goals
   simp only [sg,val]
   go_enter Tryz.func62,Tryz.ntmps62
   go_wp2
   go_ret
   exact ⟨_,rfl,⟨none,0,rfl,by simp,by unfold maxLen; omega,s,.inl rfl⟩,below_alloc _ _⟩
 ·obtain ⟨x,i⟩:∃ x:Int,(a:Int)=x:=⟨_,rfl⟩; have J:0<x:=by omega
  have K:x<1000000000:=by omega
  have I:(x==0)=false:=by rw [beq_eq_false_iff_ne]; omega
  have j:(val [a]:Int)=x:=by simp [val,i]
  have H:=Hd i; unfold sg; rw [j]; clear i j
  cases neg
  all_goals
   simp only [if_true,if_false,Bool.false_eq_true]
   go_enter Tryz.func62,Tryz.ntmps62
   go_wp2
   go_ret
   exact ⟨_,rfl,isL_one B _ a _ h4 H.o.symm (by simp) (by omega),(below_alloc _ _).alloc (by simp) _⟩
 obtain ⟨x,i⟩:∃ x:Int,(a:Int)+1000000000*b=x:=⟨_,rfl⟩; have j:(val [a,b]:Int)=x:=by simp [val,i]
 have J:1000000000≤x:=by omega
 have K:x<1000000000000000000:=by omega
 have F:Hid (x % 1000000000=a):=by unfold Hid; omega
 have u:Hid (x / 1000000000=b):=by unfold Hid; omega
 have I:(x==0)=false:=by rw [beq_eq_false_iff_ne]; omega
 unfold sg; rw [j]; clear i j
 cases neg
 all_goals
  simp only [if_true,if_false,Bool.false_eq_true]
  go_enter Tryz.func62,Tryz.ntmps62
  go_wp2
  go_ret
  exact ⟨_,rfl,isL_two B _ a b _ h3 h5 F.o u.o (by simp) (by omega),(below_alloc _ _).alloc (by simp) _⟩
open Go.RowKit
/-! Limbs and the numbers that they stand for. -/
def ord (x y:Nat):Int:=if x<y then -1 else if y<x then 1 else 0
def ordI (x y:Int):Int:=if x<y then -1 else if y<x then 1 else 0
theorem val_append (a b:List Nat):val (a++b)=val a+1000000000 ^ a.length*val b:=by
 induction a with
 | nil=>simp [val]
 | cons x a ih=>
   simp only [List.cons_append,val,ih,List.length_cons,Nat.pow_succ]; rw [Nat.mul_add,Nat.mul_comm (1000000000 ^ a.length) 1000000000,Nat.mul_assoc]; omega
theorem val_lt (a:List Nat) (h:okL a):val a<1000000000 ^ a.length:=by
 induction a with
 | nil=>simp [val]
 | cons x a ih=>
   have i:=h x (by simp); have j:=ih (fun y hy=>h y (by simp [hy])); simp only [val,List.length_cons,Nat.pow_succ]; omega
theorem val_snoc (a:List Nat) (x:Nat):val (a++[x])=val a+1000000000 ^ a.length*x:=by rw [val_append]; simp [val]
theorem val_ge (a:List Nat) (htr:isTrim a) (hne:a≠[]):1000000000 ^ (a.length - 1)≤val a:=by
 have h:=htr hne; rw [← List.dropLast_concat_getLast hne]; rw [val_snoc]; simp only [List.length_append,List.length_cons,List.length_nil,List.length_dropLast]; have:a.length - 1+(0+1) - 1=a.length - 1:=by omega
 rw [this]; have i:1000000000 ^ (a.length - 1)*1≤1000000000 ^ (a.length - 1)*a.getLast hne:=Nat.mul_le_mul_left _ (Nat.pos_of_ne_zero h); omega
theorem val_pos (a:List Nat) (htr:isTrim a) (hne:a≠[]):0<val a:=
 Nat.lt_of_lt_of_le (Nat.pow_pos (by decide)) (val_ge a htr hne)
theorem ord_eq_of (P A A' x y:Nat) (hA:A<P) (hA':A'<P):ord (A+P*x) (A'+P*y)=if x<y then -1 else if y<x then 1 else ord A A':=by
 unfold ord
 by_cases i:x<y
 ·have:P*x+P≤P*y:=by rw [← Nat.mul_succ]; exact Nat.mul_le_mul_left _ i
  rw [if_pos i,if_pos (by omega)]
 rw [if_neg i]
 by_cases j:y<x
 ·have:P*y+P≤P*x:=by rw [← Nat.mul_succ]; exact Nat.mul_le_mul_left _ j
  rw [if_pos j,if_neg (by omega),if_pos (by omega)]
 have:x=y:=by omega
 subst this; rw [if_neg j]
 by_cases h3:A<A'
 ·rw [if_pos h3,if_pos (by omega)]
 rw [if_neg h3,if_neg (by omega)]
 by_cases h4:A'<A
 ·rw [if_pos h4,if_pos (by omega)]
 rw [if_neg h4,if_neg (by omega)]
theorem okL_take (a:List Nat) (h:okL a) (k:Nat):okL (a.take k):=fun x hx=>h x (List.mem_of_mem_take hx)
theorem cmpTop_ord (a b:List Nat) (ha:okL a) (hb:okL b) (k:Nat) (h1:k≤a.length) (h2:k≤b.length):cmpTop a b k=ord (val (a.take k)) (val (b.take k)):=by
 induction k with
 | zero=>simp [cmpTop,ord,val]
 | succ k ih=>
   have i:(a.take k).length=k:=by rw [List.length_take]; omega
   have lb:(b.take k).length=k:=by rw [List.length_take]; omega
   have j:=val_lt _ (okL_take a ha k); have m:=val_lt _ (okL_take b hb k); rw [i] at j; rw [lb] at m; have s:a.getD k 0=a[k]:=by rw [List.getD_eq_getElem?_getD,List.getElem?_eq_getElem (by omega)]; rfl
   have t:b.getD k 0=b[k]:=by rw [List.getD_eq_getElem?_getD,List.getElem?_eq_getElem (by omega)]; rfl
   rw [List.take_succ_eq_append_getElem (by omega),List.take_succ_eq_append_getElem (by omega),val_snoc,val_snoc,i,lb,ord_eq_of _ _ _ _ _ j m,← ih (by omega) (by omega)]; simp only [cmpTop,s,t]
theorem cmpL_ord (a b:List Nat) (ha:okL a) (hb:okL b) (ta:isTrim a) (tb:isTrim b):cmpL a b=ord (val a) (val b):=by
 have i:∀ x y:List Nat,okL x→isTrim y→x.length<y.length→val x<val y:=fun x y hx ty hl=>by
  have j:=val_lt x hx; have m:=val_ge y ty (by intro e; rw [e] at hl; simp at hl); have h3:1000000000 ^ x.length≤1000000000 ^ (y.length - 1):=Nat.pow_le_pow_right (by decide) (by omega); omega
 unfold cmpL
 by_cases j:a.length<b.length
 ·rw [if_pos j]; unfold ord; rw [if_pos (i a b ha tb j)]
 rw [if_neg j]
 by_cases m:b.length<a.length
 ·have:=i b a hb ta m; rw [if_pos m]; unfold ord; rw [if_neg (by omega),if_pos this]
 rw [if_neg m,cmpTop_ord a b ha hb a.length leR (by omega),List.take_length,show a.length=b.length by omega,List.take_length]
def cmpI (na nb:Bool) (a b:List Nat):Int:=if na=nb then (if na then cmpL b a else cmpL a b) else if na then -1 else 1
theorem cmpI_ord (na nb:Bool) (a b:List Nat) (ha:okL a) (hb:okL b) (ta:isTrim a) (tb:isTrim b):cmpI (negOf na a) (negOf nb b) a b=ordI (sg na (val a)) (sg nb (val b)):=by
 have i:a=[]∧val a=0∨0<a.length∧0<val a:=by
  by_cases h:a=[]
  ·exact .inl ⟨h,by rw [h]; rfl⟩
  exact .inr ⟨List.length_pos_iff.2 h,val_pos a ta h⟩
 have j:b=[]∧val b=0∨0<b.length∧0<val b:=by
  by_cases h:b=[]
  ·exact .inl ⟨h,by rw [h]; rfl⟩
  exact .inr ⟨List.length_pos_iff.2 h,val_pos b tb h⟩
 unfold cmpI; rw [cmpL_ord a b ha hb ta tb,cmpL_ord b a hb ha tb ta]; unfold ord ordI negOf sg
 rcases i with ⟨rfl,m⟩|⟨t,m⟩<;>rcases j with ⟨rfl,s⟩|⟨lb,s⟩<;>cases na<;>cases nb<;>simp_all<;>(repeat' split)<;>omega
abbrev U32s (l:List Nat):List Value:=l.map (fun x=>Value.int .u32 (x:Nat))
def Row (w:World) (R:Nat) (l:List Nat):Prop:=w.heap[R]? = some (.cells (U32s l).toArray 85 (0,0))
theorem Row.lt {w:World} {R:Nat} {l:List Nat} (h:Row w R l):R<w.heap.size:=(Array.getElem?_eq_some_iff.1 h).1
theorem Row.cell {w:World} {R:Nat} {l:List Nat} (h:Row w R l) (i:Nat) (hi:i<l.length):w.cell? ⟨R,i,none⟩=some (.int .u32 (l.getD i 0:Nat)):=by
 simp [World.cell?,show w.heap[R]? = _ from h,List.getElem?_eq_getElem hi,List.getD_eq_getElem?_getD]
theorem Row.frozen {w:World} {R:Nat} {l:List Nat} (h:Row w R l) (i:Nat):w.frozen? ⟨R,i,none⟩=false:=by
 simp [World.frozen?,show w.heap[R]? = _ from h]
theorem Row.set {w:World} {R:Nat} {l:List Nat} (h:Row w R l) (i x:Nat):Row (w.setCell ⟨R,i,none⟩ (.int .u32 (x:Nat))) R (l.set i x):=by
 obtain ⟨j,m⟩:=Array.getElem?_eq_some_iff.1 h
 show (w.heap.modify R _)[R]? = _
 rw [Array.getElem?_eq_getElem (by rw [Array.size_modify]; exact j),Array.getElem_modify_self,m]; simp [U32s,List.map_set]
theorem Row.kept {w w':World} {R:Nat} {l:List Nat} (h:Row w R l) (hb:Up w w'):Row w' R l:=(hb.block R h.lt).trans h
theorem Row.drew {w:World} {R:Nat} {l:List Nat} (h:Row w R l):Row w.drew R l:=h
theorem row_of_full {w:World} {base g n:Nat} {l:List Nat} (h:w.ownsRow base 85 1 (.slice (some ⟨g,0,none⟩) n n) n (U32s l)):Row w g l:=by
 rcases h.2 with ⟨e,_⟩|⟨t,cap,j,e,_,m,_,_,s,i⟩
 ·cases e
 simp only [Value.slice.injEq,Option.some.injEq,Addr.mk.injEq,and_true,true_and] at e; obtain ⟨rfl,rfl⟩:=e; rw [Nat.mul_one] at s i; rw [List.take_of_length_le (by rw [Array.length_toList]; omega)] at i; unfold Row; rw [m,← i]
theorem Row.isL {w:World} {R B cap:Nat} {l:List Nat} (h:Row w R l) (hB:B≤R) (hok:okL l) (hc:l.length≤cap) (hm:cap≤maxLen):IsL B w (.slice (some ⟨R,0,none⟩) l.length cap) l:=
 ⟨_,cap,rfl,hc,hm,hok,.inr ⟨R,0,rfl,hB,h.lt,fun i hi=>by rw [Nat.zero_add]; exact h.cell i hi⟩⟩
theorem made_zero (n:Nat):(madeCells (Value.int .u32 0).cells (n*1)).toList=U32s (List.replicate n 0):=by
 rw [Nat.mul_one]
 show (madeCells #[.int .u32 0] n).toList=_
 rw [toList_madeCells_one]; simp [U32s]
theorem val_take_set (l:List Nat) (i x:Nat) (hi:i<l.length):val ((l.set i x).take (i+1))=val (l.take i)+1000000000 ^ i*x:=by
 have e:(l.set i x).take (i+1)=l.take i++[x]:=by
  rw [List.take_succ_eq_append_getElem (by simpa using hi),List.getElem_set_self]
  congr 1
  rw [List.take_set_of_le (Nat.le_refl i)]
 rw [e,val_snoc,List.length_take,Nat.min_eq_left (by omega)]
theorem val_take_succ (l:List Nat) (i:Nat):val (l.take (i+1))=val (l.take i)+1000000000 ^ i*l.getD i 0:=by
 by_cases hi:i<l.length
 ·rw [List.take_succ_eq_append_getElem hi,val_snoc,List.length_take,Nat.min_eq_left (by omega),List.getD_eq_getElem?_getD,List.getElem?_eq_getElem hi]; rfl
 rw [List.take_of_length_le (by omega),List.take_of_length_le (by omega),List.getD_eq_getElem?_getD,List.getElem?_eq_none (by omega)]; simp
theorem okL_set (l:List Nat) (h:okL l) (i x:Nat) (hx:x<1000000000):okL (l.set i x):=fun y hy=>by
 rcases List.mem_or_eq_of_mem_set hy with j|j
 ·exact h y j
 ·omega
end Go.Proofs.YtnhbmpnhijgpmaaGreatDoor
