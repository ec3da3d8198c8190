import Derived.Test.YtnhbmpnhijgpmaaGreatDoorMulLimbsp
import Derived.Test.YtnhbmpnhijgpmaaGreatDoorM2p
import Derived.Deep.QuietTactic
import Derived.BigQuiet
import Derived.WalkSmall
import Derived.Test.YtnhbmpnhijgpmaaGreatDoorDivGp
import Derived.Test.YtnhbmpnhijgpmaaGreatDoorPCSp
set_option maxRecDepth 100000
set_option maxHeartbeats 4000000
namespace Go.Proofs.YtnhbmpnhijgpmaaGreatDoor
open Go.ChangeShapes Go.WideShapes Go.ChangeAt Go.RowKit
theorem vfrom_set (l:List Nat) (k x:Nat) (hk:k<l.length):vfrom (l.set k x) k=vfrom l (k+1)*1000000000+x:=by
 rw [vfrom_step _ _ (by simpa using hk)]; have i:vfrom (l.set k x) (k+1)=vfrom l (k+1):=by
  unfold vfrom; rw [List.drop_set_of_lt (by omega)]
 have j:(l.set k x).getD k 0=x:=by rw [List.getD_eq_getElem?_getD,List.getElem?_set_self (by omega)]; rfl
 rw [i,j]
theorem div_step (Va Vq d r x Z:Nat) (h:Va=Vq*d+r) (hZ:r*1000000000+x=Z):Va*1000000000+x=(Vq*1000000000+Z / d)*d+Z % d:=by
 have i:=Nat.div_add_mod Z d; rw [Nat.add_mul,h,Nat.add_mul,Nat.mul_right_comm,Nat.mul_comm (Z / d) d]; omega
theorem div_lt (d r x Z:Nat) (hd:0<d) (hr:r<d) (hx:x<1000000000) (hZ:r*1000000000+x=Z):Z / d<1000000000:=by
 rw [Nat.div_lt_iff_lt_mul hd]; have:(r+1)*1000000000≤d*1000000000:=Nat.mul_le_mul_right _ hr; omega
theorem divByLimb_any (B:Nat) (va:Value) (a:List Nat) (d:Nat) (w:World) (ha:IsL B w va a) (hla:a.length≤100000) (hd:0<d) (hd2:d≤1000000000) :
 Calls Tryz.prog 129 #[va,.int .u32 (d:Nat)] w fun e w'=>∃ v q r,e=.returned (.tuple #[v,.int .u32 (r:Nat)])∧IsL w.heap.size w' v q∧isTrim q∧q.length≤a.length∧val a=val q*d+r∧r<d∧Up w w':=by
 obtain ⟨i0,O,b8,b9,c6⟩:=info_parts Tryz.info_u32; obtain ⟨pa,ca,rfl,_⟩:=id ha; obtain ⟨_,_,_,K,t⟩:=ha.cells; have HA:=Hd t; clear t ha
 go_enter Tryz.func129,Tryz.ntmps129
 go_wp2_with (at_make; refine wpList_make_full _ rfl _ _ 47 rfl w.heap.size 85 i0 (.int .u32 0) 1 Tryz.underlying47 O b8 b9 .i64 .i64 _ _ a.length rfl rfl ?m0 ?m1 ?m2 ?m3 ?m4 ?_)
 try (case m0=>first|rfl|omega)
 try (case m1=>first|rfl|omega)
 try (case m2=>(first|omega|(rw [c6]; omega)))
 try (case m3=>(unfold maxLen; omega))
 try (case m4=>exact leR)
 intro w1 s M
 first|rw [made_zero] at s|rw [made_zero'] at s
 have u:RowT w1 w.heap.size (List.replicate a.length 0):=(row_of_full s).tail; have I:Up w w1:=(Below.refl _ _).grown M leR (fun k h=>by cases h); clear s M
 go_wp2
 go_loopw [7,8] (fun rv iv wr=>∃ (j r:Nat) (L:List Nat),j≤a.length∧r<d∧L.length=a.length∧okL L∧RowT wr w.heap.size L∧rv=.int .u64 (r:Nat)∧iv=.int .i64 ((j:Int) - 1) ∧
  vfrom a j=vfrom L j*d+r∧Up w wr) (fun _ iv _=>(intOf iv+1).toNat)
 case atStart=>exact ⟨a.length,0,_,by omega,by omega,by simp,fun x hx=>by rw [List.eq_of_mem_replicate hx]; omega,u,rfl,val_int (by omega),by rw [vfrom_end]; unfold vfrom; simp [val],I⟩
 case round=>
  clear u I; obtain ⟨j,r,L,hj,hr,b5,m,u,rfl,rfl,i,H⟩:=hrel
  cases j with
  | zero=>
    unfold vfrom at i; rw [List.drop_zero,List.drop_zero] at i; have HI:Hid (IsL w.heap.size wr (.slice (some ⟨w.heap.size,0,none⟩) a.length a.length) L):=by
     have h:=u.isL (B:=w.heap.size) (cap:=a.length) leR m (by omega) (by unfold maxLen; omega); rw [b5] at h; exact h
    have HT:Hid (val a=val (trimL L)*d+r∧(trimL L).length≤a.length∧isTrim (trimL L)):=⟨by rw [val_trimL]; exact i,by have:=trimL_len L; omega,trimL_trim _⟩; have a5:=Hd H; clear i u H m
    go_wp2_with fail
    refine (trimLimbs_any w.heap.size _ L _ HI.o).mono ?_; rintro e w5 ⟨v,rfl,hcut,rfl⟩; have HW:Hid (IsL w.heap.size w5 v (trimL L)):=hcut _ _ HI.o; obtain ⟨pv,cv,hv,_⟩:=HW.o; subst hv; clear hcut
    go_wp2
    go_ret2
    exact ⟨_,_,r,rfl,HW.o,HT.o.2.2,HT.o.2.1,HT.o.1,hr,a5.o⟩
  | succ k=>
    obtain ⟨ba,oa,rfl,Q,t⟩:=HA.o k (by omega); rw [← H.cell (p:=⟨ba,oa+k,none⟩) Q] at t; have F:=okL_getD a K k (by omega); have E:=vfrom_step a k (by omega); obtain ⟨x,hx⟩:=exW (a.getD k 0); rw [hx] at t F E; obtain ⟨Z,J⟩:=exW (r*1000000000+x); have D:=div_lt d r x Z hd hr F J; have S:=Nat.mod_lt Z hd; have b3:Hid (vfrom a k=vfrom (L.set k (Z / d)) k*d+Z % d):=by
     unfold Hid
     rw [E,vfrom_set L k _ (by omega)]; exact div_step _ _ d r x Z i J
    have b6:=u.cell k (by omega); have d3:=u.frozen k; have a9:Hid (∀ v:Int,v=((Z / d:Nat):Int)→RowT (wr.setCell ⟨w.heap.size,k,none⟩ (.int .u32 v)) w.heap.size (L.set k (Z / d))):=fun v hv=>by
     rw [hv]; exact u.set _ _ (by omega)
    have a3:Hid (∀ v,Up w (wr.setCell ⟨w.heap.size,k,none⟩ v)):=fun v=>H.setCell leR _; have A:Hid (okL (L.set k (Z / d))∧(L.set k (Z / d)).length=a.length):=⟨okL_set L m _ _ D,by simp; omega⟩; obtain ⟨X,V⟩:∃ X:Int,(x:Int)=X:=⟨_,rfl⟩; rw [V] at t; obtain ⟨G,U⟩:∃ G:Int,(d:Int)=G:=⟨_,rfl⟩; obtain ⟨Y,W⟩:∃ Y:Int,(r:Int)=Y:=⟨_,rfl⟩; have T:(Y*1000000000+X) / G=((Z / d:Nat):Int):=by rw [← J,← V,← U,← W]; rfl
    have e2:(Y*1000000000+X) % G=((Z % d:Nat):Int):=by rw [← J,← V,← U,← W]; rfl
    have x1:0≤X:=by omega
    have x2:X<1000000000:=by omega
    have y1:0≤Y:=by omega
    have y2:Y<1000000000:=by omega
    have g1:0<G:=by omega
    have g2:G≤1000000000:=by omega
    have k1:0≤(Y*1000000000+X) / G:=by rw [T]; exact Int.natCast_nonneg _
    have k2:(Y*1000000000+X) / G<1000000000:=by rw [T]; exact Int.ofNat_lt.2 D
    have a6:Hid ((Y*1000000000+X) / G=((Z / d:Nat):Int)):=T; have a7:Hid ((Y*1000000000+X) % G=((Z % d:Nat):Int)):=e2; have a8:=Hd S; rw [U,W]; clear u m i H E T e2 hx V U W J F hr D S
    go_wp2
    go_roundw
    case rel=>exact ⟨k,Z % d,L.set k (Z / d),by omega,a8.o,A.o.2,A.o.1,a9.o _ a6.o,val_int a7.o,by go_num,b3.o,a3.o _⟩
    case measure=>simp [intOf]
def GuessOf (x2 x1 x0 d1 d0 g:Nat):Prop:=
 g*(d1*1000000000+d0)≤(x2*1000000000+x1)*1000000000+x0∧(x2*1000000000+x1)*1000000000+x0<(g+1)*(d1*1000000000+d0)
def GuessAt (x2 x1 x0 d1 d0 g l:Nat):Prop:=
 g*d1+l=x2*1000000000+x1∧l≤2000000001∧g≤1000000001∧(x2*1000000000+x1)*1000000000+x0<(g+1)*(d1*1000000000+d0)
theorem guess_start (x2 x1 x0 d1 d0:Nat) (h1:500000000≤d1) (h2:d1<1000000000) (hx2:x2≤d1) (hx1:x1<1000000000) (hx0:x0<1000000000) :
 GuessAt x2 x1 x0 d1 d0 ((x2*1000000000+x1) / d1) ((x2*1000000000+x1) % d1):=by
 have e:=Nat.div_add_mod (x2*1000000000+x1) d1; have l:=Nat.mod_lt (x2*1000000000+x1) (show d1 > 0 by omega); have g:(x2*1000000000+x1) / d1≤1000000001:=by
  apply Nat.le_of_lt_succ; rw [Nat.div_lt_iff_lt_mul (by omega)]; omega
 obtain ⟨q,i⟩:=exW ((x2*1000000000+x1) / d1); obtain ⟨r,j⟩:=exW ((x2*1000000000+x1) % d1); rw [i,j]; rw [i,j] at e; rw [j] at l; rw [i] at g; clear i j; refine ⟨by rw [Nat.mul_comm]; exact e,by omega,g,?_⟩; rw [Nat.mul_add,← Nat.mul_assoc,Nat.add_mul q 1 d1,Nat.one_mul,Nat.mul_comm q d1]; have:0≤(q+1)*d0:=Nat.zero_le _; omega
theorem lin1 (T v l x0 u:Nat) (e:v+l=T) (hc:l*1000000000+x0<u):T*1000000000+x0<v*1000000000+u:=by
 subst e; rw [Nat.add_mul,Nat.add_assoc]; exact Nat.add_lt_add_left hc _
theorem guess_round {x2 x1 x0 d1 d0 g l:Nat} (h:GuessAt x2 x1 x0 d1 d0 g l) (h2:d1<1000000000) (hd0:d0<1000000000) (hc:l*1000000000+x0<g*d0) :
 1≤g∧GuessAt x2 x1 x0 d1 d0 (g - 1) (l+d1):=by
 obtain ⟨e,hl,j,s⟩:=h; have m:1≤g:=by
  apply Nat.pos_of_ne_zero; rintro rfl; rw [Nat.zero_mul] at hc; omega
 obtain ⟨k,rfl⟩:∃ k,g=k+1:=⟨g - 1,by omega⟩; have p:(k+1)*d0≤1000000001*999999999:=Nat.mul_le_mul j (by omega); rw [Nat.add_sub_cancel]; rw [Nat.add_mul,Nat.one_mul] at e; have i:l<1000000000:=by
  have:(1000000001*999999999:Nat)=1000000000*1000000000 - 1:=by decide
  omega
 refine ⟨by omega,by omega,by omega,by omega,?_⟩; clear s p i hl j m; rw [Nat.mul_add,← Nat.mul_assoc,Nat.add_mul k 1 d1,Nat.one_mul]; exact lin1 _ _ l _ _ e hc
theorem guess_end {x2 x1 x0 d1 d0 g l:Nat} (h:GuessAt x2 x1 x0 d1 d0 g l) (hc:g*d0≤l*1000000000+x0):GuessOf x2 x1 x0 d1 d0 g:=by
 obtain ⟨e,hl,j,i⟩:=h; refine ⟨?_,i⟩; rw [Nat.mul_add,← Nat.mul_assoc]; omega
theorem guessLimb_any (R off cap D doff dcap n:Nat) (x2 x1 x0 d1 d0:Nat) (w:World) (hR:R<w.heap.size) (hn:2≤n) (hn2:n≤200000)
 (c2:w.cell? ⟨R,off+n,none⟩=some (.int .u32 (x2:Nat))) (c1:w.cell? ⟨R,off+(n - 1),none⟩=some (.int .u32 (x1:Nat))) (c0:w.cell? ⟨R,off+(n - 2),none⟩=some (.int .u32 (x0:Nat)))
 (e1:w.cell? ⟨D,doff+(n - 1),none⟩=some (.int .u32 (d1:Nat))) (e0:w.cell? ⟨D,doff+(n - 2),none⟩=some (.int .u32 (d0:Nat)))
 (h1:500000000≤d1) (h2:d1<1000000000) (h3:d0<1000000000) (hx2:x2≤d1) (hx1:x1<1000000000) (hx0:x0<1000000000) :
 Calls Tryz.prog 149 #[.slice (some ⟨R,off,none⟩) (n+1) cap,.slice (some ⟨D,doff,none⟩) n dcap] w fun e w'=>∃ g:Nat,e=.returned (.int .u64 (g:Nat))∧GuessOf x2 x1 x0 d1 d0 g∧Up w w':=by
 have a6:Hid (GuessAt x2 x1 x0 d1 d0 ((x2*1000000000+x1) / d1) ((x2*1000000000+x1) % d1)):=guess_start x2 x1 x0 d1 d0 h1 h2 hx2 hx1 hx0; obtain ⟨k,rfl⟩:∃ k,n=k+2:=⟨n - 2,by omega⟩; rw [show k+2 - 1=k+1 by omega] at c1 e1; rw [show k+2 - 2=k by omega] at c0 e0; have Q:Hid (∀ W,Up w W→W.cell? ⟨R,off+k,none⟩=some (.int .u32 (x0:Nat))):=fun W hW=>(hW.cell (p:=⟨R,off+k,none⟩) hR).trans c0; obtain ⟨M,A⟩:∃ X:Int,(x2:Int)=X:=⟨_,rfl⟩; obtain ⟨K,u⟩:∃ X:Int,(x1:Int)=X:=⟨_,rfl⟩; obtain ⟨F,t⟩:∃ X:Int,(d1:Int)=X:=⟨_,rfl⟩; obtain ⟨E,H⟩:∃ X:Int,(d0:Int)=X:=⟨_,rfl⟩; obtain ⟨S,J⟩:∃ X:Int,(x0:Int)=X:=⟨_,rfl⟩; have q1:(M*1000000000+K) / F=(((x2*1000000000+x1) / d1:Nat):Int):=by rw [← A,← u,← t]; rfl
 have q2:(M*1000000000+K) % F=(((x2*1000000000+x1) % d1:Nat):Int):=by rw [← A,← u,← t]; rfl
 have a3:Hid ((M*1000000000+K) / F=(((x2*1000000000+x1) / d1:Nat):Int)):=q1; have a5:Hid ((M*1000000000+K) % F=(((x2*1000000000+x1) % d1:Nat):Int)):=q2; have U:Hid ((d1:Int)=F∧(d0:Int)=E∧(x0:Int)=S):=⟨t,H,J⟩; have Z:Hid (d1<1000000000∧d0<1000000000):=⟨h2,h3⟩; rw [A] at c2; rw [u] at c1; rw [J] at c0 Q; rw [t] at e1; rw [H] at e0; have b1:0≤M:=by omega
 have b2:M<1000000000:=by omega
 have b3:0≤K:=by omega
 have b4:K<1000000000:=by omega
 have b5:500000000≤F:=by omega
 have b6:F<1000000000:=by omega
 have b7:0≤E:=by omega
 have b8:E<1000000000:=by omega
 have b9:0≤S:=by omega
 have c9:S<1000000000:=by omega
 clear A u t H J q1 q2 h1 h2 h3 hx2 hx1 hx0
 go_enter Tryz.func149,Tryz.ntmps149
 go_wp2
 go_quiet (fail)
 go_wp2
 go_quiet (fail)
 go_wp2
 go_quiet (fail)
 go_wp2
 go_loopw [9,10] (fun gv lv wr=>∃ g l:Nat,gv=.int .u64 (g:Nat)∧lv=.int .u64 (l:Nat)∧GuessAt x2 x1 x0 d1 d0 g l∧Up w wr) (fun gv _ _=>(intOf gv).toNat)
 case atStart=>exact ⟨_,_,val_int a3.o,val_int a5.o,a6.o,below_drewN (below_drewN (below_drewN (Below.refl _ _) _) _) _⟩
 case round=>
  obtain ⟨g,l,rfl,rfl,I,Y⟩:=hrel; have d2:=Q.o _ Y; have HB:=Hd Y; have hg:=I.2.2.1; have hl:=I.2.1; have HG:=Hd I; have hp:g*d0≤1000000001*999999999:=Nat.mul_le_mul hg (by have:=Z.o; omega); obtain ⟨P,O⟩:=exW (g*d0); rw [O] at hp; obtain ⟨G,i⟩:∃ G:Int,(g:Int)=G:=⟨_,rfl⟩; obtain ⟨L,j⟩:∃ L:Int,(l:Int)=L:=⟨_,rfl⟩; have m:G*E=(P:Int):=by rw [← O,← i,← U.o.2.1]; rfl
  have m1:0≤G*E:=by rw [m]; omega
  have m2:G*E≤1000000001000000000:=by rw [m]; omega
  have m3:0≤L:=by omega
  have m4:L≤2000000001:=by omega
  have m5:0≤G:=by omega
  have m6:G≤1000000001:=by omega
  by_cases T:l*1000000000+x0<g*d0
  ·have V:Hid (1≤g∧GuessAt x2 x1 x0 d1 d0 (g - 1) (l+d1)):=guess_round I Z.o.1 Z.o.2 T; have t1:L*1000000000+S<G*E:=by rw [m]; rw [O] at T; have:=U.o.2.2; omega
   have m7:1≤G:=by have:=V.o.1; omega
   have s:Hid ((g:Int)=G∧(l:Int)=L):=⟨i,j⟩; rw [i,j]; clear Y I hp O m i j hg hl T
   go_wp2
   go_roundw
   case rel=>exact ⟨g - 1,l+d1,val_int (by have:=s.o; have:=V.o.1; omega),val_int (by have:=s.o; have:=U.o.1; omega),V.o.2,HB.o⟩
   case measure=>simp [intOf]; have:=s.o; have:=V.o.1; omega
  ·have HE:Hid (GuessOf x2 x1 x0 d1 d0 g):=guess_end I (by omega); have t1:G*E≤L*1000000000+S:=by rw [m]; rw [O] at T; have:=U.o.2.2; omega
   have s:Hid ((g:Int)=G∧(l:Int)=L):=⟨i,j⟩; rw [i,j]; clear Y I hp O m i j hg hl T
   go_wp2
   go_ret
   exact ⟨g,ret_int s.o.1.symm,HE.o,HB.o⟩
theorem knuth (X3 D2 K xl dl g:Nat) (hxl:xl<K) (hdl:dl<K) (h1:g*D2≤X3) (h2:X3<(g+1)*D2) (hX3:X3<1000000000000000000000000000) (hD2:500000000000000000≤D2)
 (hX:X3*K+xl<(D2*K+dl)*1000000000) :
 g*(D2*K+dl)≤X3*K+xl+(D2*K+dl)∧X3*K+xl<(g+1)*(D2*K+dl)∧g≤1000000000:=by
 have a1:X3*K+xl<(g+1)*(D2*K+dl):=by
  have i:(X3+1)*K≤(g+1)*D2*K:=Nat.mul_le_mul_right K h2; have j:(g+1)*(D2*K+dl)=(g+1)*D2*K+(g+1)*dl:=by rw [Nat.mul_add,Nat.mul_assoc]
  rw [Nat.add_mul,Nat.one_mul] at i; omega
 have m:g≤D2:=by
  apply Nat.le_of_not_lt; intro h; have i:500000000000000001*500000000000000000≤g*D2:=Nat.mul_le_mul (by omega) hD2; omega
 have a2:g*(D2*K+dl)≤X3*K+xl+(D2*K+dl):=by
  have i:g*D2*K≤X3*K:=Nat.mul_le_mul_right K h1; have j:g*(D2*K+dl)=g*D2*K+g*dl:=by rw [Nat.mul_add,Nat.mul_assoc]
  have s:g*dl≤D2*K:=Nat.mul_le_mul m (by omega); omega
 refine ⟨a2,a1,?_⟩; apply Nat.le_of_not_lt; intro h; have i:1000000001*(D2*K+dl)≤g*(D2*K+dl):=Nat.mul_le_mul_right _ h; omega
theorem step_right (P Wn x Dv g c W':Nat) (h:W'+g*Dv=Wn+P*c) (hc:c≤x) (hX:Wn+P*x<(g+1)*Dv) (hD:Dv≤P):c=x∧Wn+P*x=g*Dv+W'∧W'<Dv:=by
 rw [Nat.add_mul,Nat.one_mul] at hX; have i:c=x:=by
  apply Nat.le_antisymm hc; apply Nat.le_of_not_lt; intro j; have e:P*(c+1)≤P*x:=Nat.mul_le_mul_left P j; rw [Nat.mul_add,Nat.mul_one] at e; omega
 subst i; exact ⟨rfl,by omega,by omega⟩
theorem step_wrong (P Wn x Dv g c W' W2 c2:Nat) (h:W'+g*Dv=Wn+P*c) (hc:x<c) (hX:g*Dv≤Wn+P*x+Dv) (hW:W'<P) (hD:Dv≤P) (h2:W2+P*c2=W'+Dv) (hW2:W2<P) :
 1≤g∧Wn+P*x=(g - 1)*Dv+W2∧W2<Dv:=by
 obtain ⟨k,rfl⟩:∃ k,c=x+1+k:=⟨c - x - 1,by omega⟩; have m:P*(x+1+k)=P*x+P+P*k:=by rw [Nat.mul_add,Nat.mul_add,Nat.mul_one]
 rw [m] at h; have s:1≤g:=by
  apply Nat.pos_of_ne_zero; rintro rfl; rw [Nat.zero_mul] at h; omega
 obtain ⟨q,rfl⟩:∃ q,g=q+1:=⟨g - 1,by omega⟩; rw [Nat.add_mul,Nat.one_mul] at h hX; rw [Nat.add_sub_cancel]; have t:k=0:=by
  apply Nat.eq_zero_of_not_pos; intro j; have:P*1≤P*k:=Nat.mul_le_mul_left P j; omega
 subst t; rw [Nat.mul_zero] at h; have i:c2=1:=by
  have u:c2<2:=by
   apply Nat.lt_of_not_le; intro j; have:P*2≤P*c2:=Nat.mul_le_mul_left P j; omega
  have l:c2≠0:=by
   rintro rfl; rw [Nat.mul_zero] at h2; omega
  omega
 subst i; rw [Nat.mul_one] at h2; exact ⟨s,by omega,by omega⟩
theorem ar2 (V a b K:Nat):V+K*a+K*1000000000*b=(b*1000000000+a)*K+V:=by grind
theorem ar3 (V a b c K:Nat):(b*1000000000+a)*K+V+K*1000000000*1000000000*c=((c*1000000000+b)*1000000000+a)*K+V:=by grind
theorem val_top2 (l:List Nat) (k:Nat):val (l.take (k+2))=(l.getD (k+1) 0*1000000000+l.getD k 0)*1000000000 ^ k+val (l.take k):=by
 rw [val_take_succ l (k+1),val_take_succ l k,Nat.pow_succ]; exact ar2 _ _ _ _
theorem val_top3 (l:List Nat) (k:Nat):val (l.take (k+3))=((l.getD (k+2) 0*1000000000+l.getD (k+1) 0)*1000000000+l.getD k 0)*1000000000 ^ k+val (l.take k):=by
 rw [val_take_succ l (k+2),val_top2,Nat.pow_succ,Nat.pow_succ]; exact ar3 _ _ _ _ _
theorem okL_take' (l:List Nat) (h:okL l) (n:Nat):okL (l.take n):=fun x hx=>h x (List.mem_of_mem_take hx)
theorem okL_drop (l:List Nat) (h:okL l) (n:Nat):okL (l.drop n):=fun x hx=>h x (List.mem_of_mem_drop hx)
theorem val_take_lt (l:List Nat) (h:okL l) (n:Nat):val (l.take n)<1000000000 ^ n:=val_lt_of _ (okL_take' l h n) n (by rw [List.length_take]; omega)
theorem base_lt (T x N:Nat) (hT:T<N) (hx:x<1000000000):T*1000000000+x<N*1000000000:=by
 have h:(T+1)*1000000000≤N*1000000000:=Nat.mul_le_mul_right _ hT; rw [Nat.add_mul,Nat.one_mul] at h; exact Nat.lt_of_lt_of_le (Nat.add_lt_add_left hx _) h
theorem top_le (x2 d1 W T P:Nat) (h:W+P*1000000000*x2<T*1000000000) (hT:T<P*(d1+1)):x2≤d1:=by
 apply Nat.le_of_not_lt; intro i; have e:P*1000000000*(d1+1)≤P*1000000000*x2:=Nat.mul_le_mul_left _ i; have j:P*1000000000*(d1+1)=P*(d1+1)*1000000000:=by grind
 omega
theorem guess_whole (M Dl:List Nat) (k g:Nat) (hM:okL M) (hD:okL Dl) (hl:Dl.length=k+2) (htop:500000000≤Dl.getD (k+1) 0)
 (hlt:val (M.take (k+3))<val Dl*1000000000) (hg:GuessOf (M.getD (k+2) 0) (M.getD (k+1) 0) (M.getD k 0) (Dl.getD (k+1) 0) (Dl.getD k 0) g) (hml:k+3≤M.length) :
 g*val Dl≤val (M.take (k+3))+val Dl∧val (M.take (k+3))<(g+1)*val Dl∧g≤1000000000:=by
 have j:=val_top3 M k; have i:=val_top2 Dl k; rw [List.take_of_length_le (by omega)] at i; have u:=val_take_lt M hM k; have t:=val_take_lt Dl hD k; have b2:=okL_getD M hM (k+2) (by omega); have b1:=okL_getD M hM (k+1) (by omega); have b0:=okL_getD M hM k (by omega); obtain ⟨m,s⟩:=hg; rw [j,i] at hlt ⊢; exact knuth _ _ _ _ _ g u t m s (base_lt _ _ 1000000000000000000 (base_lt _ _ 1000000000 b2 b1) b0) (by omega) hlt
theorem x2_le (M Dl:List Nat) (k:Nat) (hD:okL Dl) (hl:Dl.length=k+2) (hlt:val (M.take (k+3))<val Dl*1000000000):M.getD (k+2) 0≤Dl.getD (k+1) 0:=by
 have j:=val_take_succ M (k+2); have i:=val_take_succ Dl (k+1); rw [List.take_of_length_le (by omega)] at i; have m:=val_take_lt Dl hD (k+1); rw [j,Nat.pow_succ] at hlt; exact top_le _ _ _ _ (1000000000 ^ (k+1)) hlt (by rw [i,Nat.mul_add,Nat.mul_one]; omega)
theorem divStep_any (R off cap D dcap k:Nat) (A Dl:List Nat) (w:World) (hR:RowT w R A) (hAok:okL A) (hl:Dl.length=k+2) (hn:off+(k+3)≤A.length) (hA:A.length≤150000) (hD:RowT w D Dl) (hDR:D≠R) (hDok:okL Dl)
 (htop:500000000≤Dl.getD (k+1) 0) (hlt:val ((A.drop off).take (k+3))<val Dl*1000000000) (hcap:k+3≤cap) :
 Calls Tryz.prog 143 #[.slice (some ⟨R,off,none⟩) (k+3) cap,.slice (some ⟨D,0,none⟩) (k+2) dcap] w fun e w'=>∃ (q:Nat) (L:List Nat),e=.returned (.int .u32 (q:Nat))∧RowT w' R L∧L.length=A.length∧okL L∧L.take off=A.take off∧q<1000000000 ∧
  val ((A.drop off).take (k+3))=q*val Dl+val ((L.drop off).take (k+2))∧val ((L.drop off).take (k+2))<val Dl∧Only R w w':=by
 have HM:Hid (okL (A.drop off)∧k+3≤(A.drop off).length):=⟨okL_drop A hAok off,by simp; omega⟩; have c2:=hR.cell (off+(k+2)) (by omega); have c1:=hR.cell (off+(k+1)) (by omega); have c0:=hR.cell (off+k) (by omega); have e1:=hD.cell (k+1) (by omega); have e0:=hD.cell k (by omega); have b1:=okL_getD A hAok (off+(k+1)) (by omega); have b0:=okL_getD A hAok (off+k) (by omega); have d1:=okL_getD Dl hDok (k+1) (by omega); have d0:=okL_getD Dl hDok k (by omega); have a8:=x2_le (A.drop off) Dl k hDok hl hlt; rw [drop_getD] at a8; have c8:=hR.lt; have d9:=hD.lt; have HG:Hid (∀ W,True→Calls Tryz.prog 149 #[.slice (some ⟨R,off,none⟩) (k+3) cap,.slice (some ⟨D,0,none⟩) (k+2) dcap] w fun e w'=>∃ g:Nat,e=.returned (.int .u64 (g:Nat))∧GuessOf (A.getD (off+(k+2)) 0) (A.getD (off+(k+1)) 0) (A.getD (off+k) 0) (Dl.getD (k+1) 0) (Dl.getD k 0) g∧Up w w'):=fun (_:World) _=>
  guessLimb_any R off cap D 0 dcap (k+2) _ _ _ _ _ w c8 (by omega) (by omega) c2 (by rw [show k+2 - 1=k+1 by omega]; exact c1) (by rw [show k+2 - 2=k by omega]; exact c0) (by rw [show 0+(k+2 - 1)=k+1 by omega]; exact e1) (by rw [show 0+(k+2 - 2)=k by omega]; exact e0) htop d1 d0 a8 b1 b0
 have b5:Hid (RowT w R A∧RowT w D Dl):=⟨hR,hD⟩; have Y:Hid (val ((A.drop off).take (k+3))<val Dl*1000000000∧500000000≤Dl.getD (k+1) 0):=⟨hlt,htop⟩; clear c2 c1 c0 e1 e0 b1 b0 d1 d0 a8 hR hD hlt htop
 go_enter Tryz.func143,Tryz.ntmps143
 go_wp2_with fail
 refine (HG.o w trivial).mono ?_; rintro e w1 ⟨g,rfl,hg,S⟩; have a5:Only R w w1:=Only.of S (by omega); have d6:=Hd a5; have E:Hid (RowT w1 R A∧RowT w1 D Dl):=by
  refine ⟨?_,a5.rowT hDR b5.o.2⟩; obtain ⟨t,h⟩:=b5.o.1; exact ⟨t,(S.block R c8).trans h⟩
 have hw:=guess_whole (A.drop off) Dl k g HM.o.1 hDok hl Y.o.2 Y.o.1 (by rw [drop_getD,drop_getD,drop_getD]; exact hg) HM.o.2; have HW:Hid (g*val Dl≤val ((A.drop off).take (k+3))+val Dl∧val ((A.drop off).take (k+3))<(g+1)*val Dl):=⟨hw.1,hw.2.1⟩; have e4:=hw.2.2; have b7:Hid (D<w1.heap.size):=Nat.lt_of_lt_of_le d9 S.size; clear hg S a5 hw
 go_wp2_with fail
 have M:=subScaledAt_any R off cap g (some ⟨D,0,none⟩) dcap A Dl w1 E.o.1 hAok (by omega) (by omega) hDok e4 (fun i hi=>⟨D,0,rfl,⟨b7.o,hDR⟩,by rw [Nat.zero_add]; exact E.o.2.cell i hi⟩); rw [hl] at M; refine M.mono ?_; clear M; rintro e w2 ⟨c,L,rfl,H,a3,J,a6,a7,g9,u,F⟩; have b4:Hid (Only R w w2):=d6.o.trans F; have b6:Hid (RowT w2 R L∧RowT w2 D Dl):=⟨H,F.rowT hDR E.o.2⟩; have c9:=H.cell (off+(k+2)) (by omega); have hx:=getD_drop L A (off+(k+2)) a6; rw [hx] at c9; obtain ⟨x,a9⟩:=exW (A.getD (off+(k+2)) 0); rw [a9] at c9; have e6:=okL_getD A hAok (off+(k+2)) (by omega); rw [a9] at e6; have m:=val_seg_succ A off (k+2); rw [a9] at m; have Z:val Dl<1000000000 ^ (k+2):=val_lt_of Dl hDok _ (by omega); have d8:Hid (D<w2.heap.size):=Nat.lt_of_lt_of_le b7.o F.below.size; have j:Hid (RowT w2 R L∧L.length=A.length∧okL L∧L.take off=A.take off):=⟨H,a3,J,a7⟩
 by_cases e3:c≤x
 ·have U:=step_right (1000000000 ^ (k+2)) _ x (val Dl) g c _ u e3 (by rw [← m]; exact HW.o.2) (by omega); have Q:Hid (g<1000000000∧val ((A.drop off).take (k+3))=g*val Dl+val ((L.drop off).take (k+2))∧val ((L.drop off).take (k+2))<val Dl):=by
   have hE:val ((A.drop off).take (k+3))=g*val Dl+val ((L.drop off).take (k+2)):=m.trans U.2.1; refine ⟨?_,hE,U.2.2⟩; apply Nat.lt_of_not_le; intro h9; have h8:1000000000*val Dl≤g*val Dl:=Nat.mul_le_mul_right _ h9; have:=Y.o.1; omega
  have t1:(c:Int)≤(x:Int):=by omega
  have gb:g<1000000000:=Q.o.1; clear u m U H a3 J a6 a7 F hx Z
  go_wp2
  go_ret
  exact ⟨g,L,rfl,j.o.1,j.o.2.1,j.o.2.2.1,j.o.2.2.2,Q.o.1,Q.o.2.1,Q.o.2.2,b4.o⟩
 have t1:(x:Int)<(c:Int):=by omega
 have HV:Hid (val ((L.drop off).take (k+2))+g*val Dl=val ((A.drop off).take (k+2))+1000000000 ^ (k+2)*c∧val ((A.drop off).take (k+3))=val ((A.drop off).take (k+2))+1000000000 ^ (k+2)*x∧val Dl<1000000000 ^ (k+2)∧x<c):=⟨u,m,Z,by omega⟩; have cb:(c:Int)≤1000000000:=by omega
 clear u m H a3 J a6 a7 F hx Z
 go_wp2_with fail
 have I:=addIntoAt_any R off cap (some ⟨D,0,none⟩) dcap L Dl w2 j.o.1 j.o.2.2.1 (by have:=j.o.2.1; omega) (by have:=j.o.2.1; omega) hDok (fun i hi=>⟨D,0,rfl,⟨d8.o,hDR⟩,by rw [Nat.zero_add]; exact b6.o.2.cell i hi⟩); rw [hl] at I; refine I.mono ?_; clear I; rintro e w3 ⟨c3,T,rfl,c7,b9,K,d2,V,g8,O,c6⟩; have U:=step_wrong (1000000000 ^ (k+2)) _ x (val Dl) g c _ _ c3 HV.o.1 HV.o.2.2.2 (by rw [← HV.o.2.1]; exact HW.o.1) (val_take_lt _ (okL_drop L j.o.2.2.1 off) _) (by have:=HV.o.2.2.1; omega) O (val_take_lt _ (okL_drop T K off) _); have Q:Hid (1≤g∧g - 1<1000000000∧val ((A.drop off).take (k+3))=(g - 1)*val Dl+val ((T.drop off).take (k+2))∧val ((T.drop off).take (k+2))<val Dl):=⟨U.1,by omega,HV.o.2.1.trans U.2.1,U.2.2⟩; have s:Hid (RowT w3 R T∧T.length=A.length∧okL T∧T.take off=A.take off):=⟨c7,by rw [b9]; exact j.o.2.1,K,V.trans j.o.2.2.2⟩; have d7:Hid (Only R w w3):=b4.o.trans c6; obtain ⟨G,hG⟩:∃ G:Int,(g:Int)=G:=⟨_,rfl⟩; have g1:1≤G:=by have:=Q.o.1; omega
 have g2:G≤1000000000:=by omega
 have d5:=Hd hG; rw [hG]; clear U c7 b9 K d2 V O c6 hG
 go_wp2
 go_ret
 exact ⟨g - 1,T,ret_int (by have:=d5.o; have:=Q.o.1; omega),s.o.1,s.o.2.1,s.o.2.2.1,s.o.2.2.2,Q.o.2.1,Q.o.2.2.1,Q.o.2.2.2,d7.o⟩
theorem scale_half (t s:Nat) (ht:1≤t) (ht2:t<1000000000) (h1:s*(t+1)≤1000000000) (h2:1000000000<(s+1)*(t+1)):500000000≤s*t:=by
 by_cases a:t=1
 ·subst a; omega
 by_cases b:s=1
 ·subst b; omega
 by_cases c:s=0
 ·subst c; omega
 obtain ⟨u,rfl⟩:∃ u,s=u+2:=⟨s - 2,by omega⟩; obtain ⟨v,rfl⟩:∃ v,t=v+2:=⟨t - 2,by omega⟩; have i:(u+2+1)*(v+2+1)=u*v+3*u+3*v+9:=by grind
 have j:(u+2)*(v+2)=u*v+2*u+2*v+4:=by grind
 rw [i] at h2; rw [j]; omega
theorem scale_fit (s t P vb:Nat) (hs:1≤s) (h1:s*(t+1)≤1000000000) (hb:vb<P*(t+1)):s*vb<P*1000000000:=by
 have i:s*(vb+1)≤s*(P*(t+1)):=Nat.mul_le_mul_left s hb; have j:s*(P*(t+1))=P*(s*(t+1)):=by grind
 have m:P*(s*(t+1))≤P*1000000000:=Nat.mul_le_mul_left P h1; rw [Nat.mul_add,Nat.mul_one] at i; omega
theorem scale_top (s t P vb dt W:Nat) (hb:vb=W+P*t) (hd:s*vb<P*(dt+1)):s*t≤dt:=by
 apply Nat.le_of_lt_succ; apply Nat.lt_of_not_le; intro h; have j:P*(dt+1)≤P*(s*t):=Nat.mul_le_mul_left P h; have i:s*(W+P*t)=s*W+P*(s*t):=by grind
 rw [hb,i] at hd; omega
theorem first_top (P Q V s va vb:Nat) (h:P*V≤s*va) (hva:va<P*Q) (hvb:Q≤vb) (hs:1≤s):V<s*vb:=by
 have i:s*(va+1)≤s*(P*Q):=Nat.mul_le_mul_left s hva; have m:s*(P*Q)=P*(s*Q):=by grind
 have j:s*Q≤s*vb:=Nat.mul_le_mul_left s hvb; apply Nat.lt_of_lt_of_le ?_ j; apply Nat.lt_of_not_le; intro h3; have t:P*(s*Q)≤P*V:=Nat.mul_le_mul_left P h3; rw [Nat.mul_add,Nat.mul_one] at i; omega
theorem window_lt (x T Dv:Nat) (hx:x<1000000000) (hT:T<Dv):x+1000000000*T<Dv*1000000000:=by
 have:1000000000*(T+1)≤1000000000*Dv:=Nat.mul_le_mul_left _ hT; omega
theorem round_eq (S Vq P Dv Lo X q W:Nat) (h:S=Vq*(P*1000000000)*Dv+(Lo+P*X)) (hX:X=q*Dv+W):S=(Vq*1000000000+q)*P*Dv+(Lo+P*W):=by
 rw [h,hX]
 grind
theorem last_eq (s va vb Q W U r:Nat) (hs:1≤s) (h:s*va=Q*(s*vb)+W) (hW:W<s*vb) (hU:W=U*s+r) (hr:r<s):va=Q*vb+U∧U<vb:=by
 have t:Q*(s*vb)=s*(Q*vb):=by grind
 rw [t,hU] at h; have A:Q*vb≤va:=by
  apply Nat.le_of_not_lt; intro i; have:s*(va+1)≤s*(Q*vb):=Nat.mul_le_mul_left s i; rw [Nat.mul_add,Nat.mul_one] at this; omega
 obtain ⟨y,rfl⟩:∃ y,va=Q*vb+y:=⟨va - Q*vb,by omega⟩; have u:s*y=U*s+r:=by
  rw [Nat.mul_add] at h; omega
 have m:U=y:=by
  have D:y*s=U*s+r:=by rw [Nat.mul_comm]; exact u
  apply Nat.le_antisymm
  ·apply Nat.le_of_not_lt; intro i; have:(y+1)*s≤U*s:=Nat.mul_le_mul_right s i; rw [Nat.add_mul,Nat.one_mul] at this; omega
  apply Nat.le_of_not_lt; intro i; have:(U+1)*s≤y*s:=Nat.mul_le_mul_right s i; rw [Nat.add_mul,Nat.one_mul] at this; omega
 subst m; refine ⟨rfl,?_⟩; apply Nat.lt_of_not_le; intro j; have:s*vb≤s*U:=Nat.mul_le_mul_left s j; omega
theorem val_cut (L:List Nat) (i n:Nat) (h:i≤L.length):val (L.take (i+n))=val (L.take i)+1000000000 ^ i*val ((L.drop i).take n):=by
 rw [List.take_add,val_append,List.length_take,Nat.min_eq_left h]
theorem val_cons_seg (L:List Nat) (i n:Nat) (h:i<L.length):val ((L.drop i).take (n+1))=L.getD i 0+1000000000*val ((L.drop (i+1)).take n):=by
 rw [List.drop_eq_getElem_cons h,List.take_succ_cons,val,List.getD_eq_getElem?_getD,List.getElem?_eq_getElem h]; rfl
theorem RowT.other {w:World} {R:Nat} {l:List Nat} (h:RowT w R l) (p:Addr) (u:Value) (hp:p.block≠R):RowT (w.setCell p u) R l:=by
 obtain ⟨t,h⟩:=h; refine ⟨t,Eq.trans ?_ h⟩
 show (w.heap.modify p.block _)[R]? = _
 rw [Array.getElem?_modify,if_neg hp]
theorem RowT.kept {w w':World} {R:Nat} {l:List Nat} (h:RowT w R l) (hb:Up w w'):RowT w' R l:=by
 have i:=h.lt; obtain ⟨t,h⟩:=h; exact ⟨t,(hb.block R i).trans h⟩
theorem RowT.keptB {w w':World} {R N:Nat} {l:List Nat} (h:RowT w R l) (hb:Below N w w') (hR:R<N):RowT w' R l:=by
 obtain ⟨t,h⟩:=h; exact ⟨t,(hb.block R hR).trans h⟩
structure DivAt (a b:List Nat) (s k m:Nat) (Dl L Q:List Nat) (j:Nat):Prop where
 len:L.length=k+2+m+1
 ok:okL L
 qlen:Q.length=m+1
 qok:okL Q
 le:j≤m+1
 eq:s*val a=vfrom Q j*1000000000 ^ j*val Dl+val (L.take (j+(k+2)))
 top:val ((L.drop j).take (k+2))<val Dl
theorem DivAt.step {a b:List Nat} {s k m:Nat} {Dl L Q:List Nat} {i:Nat} (h:DivAt a b s k m Dl L Q (i+1)) {q:Nat} {L':List Nat} (hq:q<1000000000) (hL:L'.length=L.length) (hok:okL L') (htk:L'.take i=L.take i)
 (hX:val ((L.drop i).take (k+3))=q*val Dl+val ((L'.drop i).take (k+2))) (ht:val ((L'.drop i).take (k+2))<val Dl):DivAt a b s k m Dl L' (Q.set i q) i:=by
 have hi:=h.le; refine ⟨hL.trans h.len,hok,by simp [h.qlen],okL_set Q h.qok i q hq,by omega,?_,ht⟩; have e:=h.eq; rw [show i+1+(k+2)=i+(k+3) by omega,val_cut L i (k+3) (by have:=h.len; omega),Nat.pow_succ] at e; rw [vfrom_set Q i q (by have:=h.qlen; omega),val_cut L' i (k+2) (by have:=h.len; omega),htk]; exact round_eq _ _ _ _ _ _ q _ e hX
theorem DivAt.window {a b:List Nat} {s k m:Nat} {Dl L Q:List Nat} {i:Nat} (h:DivAt a b s k m Dl L Q (i+1)):val ((L.drop i).take (k+3))<val Dl*1000000000:=by
 have hi:=h.le; have hl:=h.len; rw [val_cons_seg L i (k+2) (by omega)]; exact window_lt _ _ _ (okL_getD L h.ok i (by omega)) h.top
theorem getLast_getD (b:List Nat) (k:Nat) (hl:b.length=k+1) (ht:isTrim b):1≤b.getD k 0:=by
 have i:b≠[]:=by intro h; rw [h] at hl; simp at hl
 have h:=ht i; rw [List.getLast_eq_getElem] at h; have e:b.getD k 0=b[b.length - 1]'(by omega):=by
  rw [List.getD_eq_getElem?_getD,List.getElem?_eq_getElem (by omega)]; simp [hl]
 omega
theorem divLong_any (B:Nat) (va vb:Value) (a b:List Nat) (k m:Nat) (w:World) (ha:IsL B w va a) (hb:IsL B w vb b) (hlb:b.length=k+2) (hla:a.length=k+2+m) (hmx:k+2+m≤100000) (htb:isTrim b) :
 Calls Tryz.prog 130 #[va,vb] w fun e w'=>∃ v u Q U,e=.returned (.tuple #[v,u])∧IsL w.heap.size w' v Q∧IsL w.heap.size w' u U∧isTrim Q∧isTrim U∧Q.length≤m+1∧U.length≤k+2∧val a=val Q*val b+val U∧val U<val b∧Up w w':=by
 obtain ⟨i0,a6,e9,f5,f7⟩:=info_parts Tryz.info_u32; obtain ⟨pa,ca,rfl,_⟩:=id ha; obtain ⟨pb,cb,rfl,_⟩:=id hb; obtain ⟨_,_,_,c7,i4⟩:=ha.cells; obtain ⟨_,_,_,a3,e0⟩:=hb.cells; have HA:=Hd i4; have HB:=Hd e0; obtain ⟨bb,ob,rfl,p6,e3⟩:=e0 (k+1) (by omega); have j0:=getLast_getD b (k+1) hlb htb; have j1:=okL_getD b a3 (k+1) (by omega); obtain ⟨t,ht⟩:=exW (b.getD (k+1) 0); obtain ⟨s,hs⟩:=exW (1000000000 / (t+1)); have e4:s*(t+1)≤1000000000:=by rw [← hs]; exact Nat.div_mul_le_self _ _
 have i8:1000000000<(s+1)*(t+1):=by
  have:=Nat.lt_div_mul_add (a:=1000000000) (b:=t+1) (by omega); rw [hs] at this; rw [Nat.add_mul,Nat.one_mul]; exact this
 rw [ht] at j0 j1 e3; have i9:1≤s:=by
  apply Nat.pos_of_ne_zero; rintro rfl; omega
 have m7:s≤500000000:=by
  have:s*2≤s*(t+1):=Nat.mul_le_mul_left s (by omega); omega
 have H:Hid (1≤s∧s*(t+1)≤1000000000∧500000000≤s*t∧b.getD (k+1) 0=t∧s≤500000000):=⟨i9,e4,scale_half t s j0 j1 e4 i8,ht,m7⟩; rw [hlb,hla]; obtain ⟨T,hT⟩:∃ T:Int,(t:Int)=T:=⟨_,rfl⟩; have m8:1000000000 / (T+1)=(s:Int):=by rw [← hs,← hT]; rfl
 rw [hT] at e3; have t1:1≤T:=by omega
 have t2:T<1000000000:=by omega
 clear i4 e0 ha hb e4 i8 hs ht hT
 go_enter Tryz.func130,Tryz.ntmps130
 go_wp2_with (at_make; refine wpList_make_full _ rfl _ _ 47 rfl w.heap.size 85 i0 (.int .u32 0) 1 Tryz.underlying47 a6 e9 f5 .i64 .i64 _ _ (k+2+m+1) rfl rfl (by first|rfl|omega) (by first|rfl|omega) (by first|omega|(rw [f7]; omega)) (by unfold maxLen; omega) leR ?_)
 intro w1 A K
 first|rw [made_zero] at A|rw [made_zero'] at A
 have d4:RowT w1 w.heap.size (List.replicate (k+2+m+1) 0):=(row_of_full A).tail; have h2:Up w w1:=(Below.refl _ _).grown K leR (fun k h=>by cases h); have k9:=Hd d4; have g2:=Hd h2; have n1:Hid (w.heap.size<w1.heap.size):=d4.lt; clear A K d4 h2 e3 t1 t2 m8
 go_wp2_with fail
 have G:=addScaled_any w.heap.size 0 (k+2+m+1) s _ pa ca (List.replicate (k+2+m+1) 0) a w1 k9.o (fun x hx=>by rw [List.eq_of_mem_replicate hx]; omega) (by simp; omega) (by simp; omega) c7 rfl (by omega) (by have:=H.o.2.2.2.2; omega) (fun i hi=>by
  obtain ⟨c,a7,e,hc,e2⟩:=HA.o i hi; exact ⟨c,a7,e,hc,by rw [g2.o.cell (p:=⟨c,a7+i,none⟩) hc]; exact e2⟩)
 rw [hla] at G; refine G.mono ?_; clear G; rintro e S ⟨c,L,rfl,Z,Y,c8,i5,hc,e6,i2⟩; have a5:=Z.cell (k+2+m) (by rw [Y]; simp); have i7:=Z.frozen (k+2+m); have h0:L.getD (k+2+m) 0=0:=by
  rw [getD_of_drop L _ (0+(k+2+m)) (k+2+m) i5 (by omega)]; simp [List.getD_eq_getElem?_getD]
 have e8:=val_set L (k+2+m) c (by rw [Y]; simp); rw [h0,Nat.mul_zero,Nat.add_zero] at e8; rw [val_replicate,Nat.zero_add,Nat.zero_add,Nat.pow_zero,Nat.one_mul] at e6; have O:Hid (val (L.set (k+2+m) c)=s*val a∧okL (L.set (k+2+m) c)∧(L.set (k+2+m) c).length=k+2+m+1):=⟨e8.trans e6,okL_set L c8 _ _ (by have:=H.o.2.2.2.2; omega),by simp [Y]⟩; have d2:Hid (RowT (S.setCell ⟨w.heap.size,k+2+m,none⟩ (.int .u32 (c:Nat))) w.heap.size (L.set (k+2+m) c)):=Z.set _ _ (by rw [Y]; simp); have g3:Hid (Up w (S.setCell ⟨w.heap.size,k+2+m,none⟩ (.int .u32 (c:Nat)))):=(g2.o.trans i2).setCell leR _; have p7:c<1000000000:=by have:=H.o.2.2.2.2; omega
 have g7:Hid (w.heap.size<S.heap.size):=Z.lt; clear Z Y c8 i5 hc e6 i2 h0 e8; obtain ⟨W3,d5⟩:=exW (S.setCell ⟨w.heap.size,k+2+m,none⟩ (.int .u32 (c:Nat))); have g9:=Hd d5; generalize L.set (k+2+m) c=N at O d2; rw [d5] at d2 g3; clear d5; have i9:W3.heap.size=S.heap.size:=by rw [← g9.o]; simp
 have E:Hid (w.heap.size<S.heap.size):=g7.o
 go_wp2_with (at_make; refine wpList_make_full _ rfl _ _ 47 rfl S.heap.size 85 i0 (.int .u32 0) 1 Tryz.underlying47 a6 e9 f5 .i64 .i64 _ _ (k+2) rfl rfl (by first|rfl|omega) (by first|rfl|omega) (by first|omega|(rw [f7]; omega)) (by unfold maxLen; omega) (by simp) ?_)
 intro w4 A K; rw [g9.o] at K
 first|rw [made_zero] at A|rw [made_zero'] at A
 have h6:RowT w4 S.heap.size (List.replicate (k+2) 0):=(row_of_full A).tail; have b3:Below S.heap.size W3 w4:=(Below.refl _ _).grown K (by omega) (fun k h=>by cases h); have k5:=Hd h6; have o8:=Hd b3; have b8:Hid (Up w w4):=g3.o.trans (b3.mono (by have:=E.o; omega)); have l0:Hid (RowT w4 w.heap.size N):=d2.o.keptB b3 E.o; clear A K h6 b3 a5 i7
 go_wp2_with fail
 have G:=addScaled_any S.heap.size 0 (k+2) s _ (some ⟨bb,ob,none⟩) cb (List.replicate (k+2) 0) b w4 k5.o (fun x hx=>by rw [List.eq_of_mem_replicate hx]; omega) (by simp; omega) (by simp; omega) a3 rfl (by omega) (by have:=H.o.2.2.2.2; omega) (fun i hi=>by
  obtain ⟨c,a7,e,hc,e2⟩:=HB.o i hi; exact ⟨c,a7,e,by have:=E.o; omega,by rw [b8.o.cell (p:=⟨c,a7+i,none⟩) hc]; exact e2⟩)
 rw [hlb] at G; refine G.mono ?_; clear G; rintro e I ⟨c5,M,rfl,h7,b9,W,i6,l8,e7,d7⟩; rw [val_replicate,Nat.zero_add,Nat.zero_add,Nat.pow_zero,Nat.one_mul] at e7; have d9:val b=val (b.take (k+1))+1000000000 ^ (k+1)*t:=by
  have h:=val_take_succ b (k+1); rw [List.take_of_length_le (by omega),H.o.2.2.2.1] at h; exact h
 have i3:val b<1000000000 ^ (k+1)*(t+1):=by
  rw [d9,Nat.mul_add,Nat.mul_one]; have:=val_take_lt b a3 (k+1); omega
 have c6:M.length=k+2:=by rw [b9]; simp
 have b5:val M=s*val b:=by
  have h1:s*val b<1000000000 ^ (k+2):=by rw [Nat.pow_succ]; exact scale_fit s t _ _ H.o.1 H.o.2.1 i3
  rw [← e7] at h1 ⊢; have:c5=0:=by
   apply Nat.eq_zero_of_not_pos; intro hp; have:1000000000 ^ (k+2)*1≤1000000000 ^ (k+2)*c5:=Nat.mul_le_mul_left _ hp; omega
  rw [this,Nat.mul_zero,Nat.add_zero]
 have k7:Hid (500000000≤M.getD (k+1) 0):=by
  unfold Hid
  have h1:val M<1000000000 ^ (k+1)*(M.getD (k+1) 0+1):=by
   have h:=val_take_succ M (k+1); rw [List.take_of_length_le (by omega)] at h; rw [h,Nat.mul_add,Nat.mul_one]; have:=val_take_lt M W (k+1); omega
  rw [b5] at h1; have:=scale_top s t _ _ _ _ d9 h1; have:=H.o.2.2.1; omega
 have a8:Hid (val M=s*val b∧okL M∧M.length=k+2):=⟨b5,W,c6⟩; have l1:Hid (RowT I w.heap.size N):=l0.o.keptB d7 E.o; have g4:=Hd h7; have k0:Hid (Up w I):=b8.o.trans (d7.mono (by have:=E.o; omega)); have l4:Hid (DivAt a b s k m M N (List.replicate (m+1) 0) (m+1)):=by
  refine ⟨O.o.2.2,O.o.2.1,by simp,fun x hx=>by rw [List.eq_of_mem_replicate hx]; omega,leR,?_,?_⟩
  ·have e1:vfrom (List.replicate (m+1) 0) (m+1)=0:=by unfold vfrom; simp [val]
   rw [e1,Nat.zero_mul,Nat.zero_mul,Nat.zero_add,List.take_of_length_le (by have:=O.o.2.2; omega)]; exact O.o.1.symm
  rw [b5]; refine first_top (1000000000 ^ (m+1)) (1000000000 ^ (k+1)) _ s (val a) (val b) ?_ ?_ ?_ H.o.1
  ·have h:=val_cut N (m+1) (k+2) (by have:=O.o.2.2; omega); rw [List.take_of_length_le (by have:=O.o.2.2; omega),O.o.1] at h; omega
  ·have h:=val_lt a c7; rw [hla] at h; rw [← Nat.pow_add,show m+1+(k+1)=k+2+m by omega]; exact h
  have h:=val_ge b htb (by intro h; rw [h] at hlb; simp at hlb); rw [hlb,show k+2 - 1=k+1 by omega] at h; exact h
 clear b9 W i6 l8 e7 d7 d9 i3 c6 b5 h7; have V:Hid (S.heap.size<I.heap.size):=g4.o.lt
 go_wp2_with (at_make; refine wpList_make_full _ rfl _ _ 47 rfl I.heap.size 85 i0 (.int .u32 0) 1 Tryz.underlying47 a6 e9 f5 .i64 .i64 _ _ (m+1) rfl rfl (by first|rfl|omega) (by first|rfl|omega) (by first|omega|(rw [f7]; omega)) (by unfold maxLen; omega) leR ?_)
 intro w6 A K
 first|rw [made_zero] at A|rw [made_zero'] at A
 have d3:RowT w6 I.heap.size (List.replicate (m+1) 0):=(row_of_full A).tail; have b4:Up I w6:=(Below.refl _ _).grown K leR (fun k h=>by cases h); have a9:Hid (RowT w6 I.heap.size (List.replicate (m+1) 0)∧RowT w6 w.heap.size N∧RowT w6 S.heap.size M∧Up w w6):=⟨d3,l1.o.kept b4,g4.o.kept b4,k0.o.trans (b4.mono (by have:=V.o; have:=E.o; omega))⟩; have n2:Hid (I.heap.size<w6.heap.size):=d3.lt; clear A K d3 b4
 go_wp2
 go_loopw [10] (fun iv wr=>∃ (j:Nat) (L Q:List Nat),DivAt a b s k m M L Q j∧iv=.int .i64 ((j:Int) - 1)∧RowT wr w.heap.size L∧RowT wr S.heap.size M∧RowT wr I.heap.size Q∧Up w wr) (fun iv _=>(intOf iv+1).toNat)
 case atStart=>exact ⟨m+1,N,_,l4.o,val_int (by omega),a9.o.2.1,a9.o.2.2.1,a9.o.1,a9.o.2.2.2⟩
 case round=>
  obtain ⟨j,L,Q,d6,rfl,hR,hD,hQ,hB⟩:=hrel; have F:=Hd d6; have D:Hid (RowT wr w.heap.size L∧RowT wr S.heap.size M∧RowT wr I.heap.size Q∧Up w wr):=⟨hR,hD,hQ,hB⟩; have l9:=d6.le; clear hR hD hQ hB d6
  cases j with
  | zero=>
    clear l9; have hL:=F.o.len; have e5:(L.take (k+2)).length=k+2:=by rw [List.length_take]; omega
    have HI:Hid (IsL w.heap.size wr (.slice (some ⟨w.heap.size,0,none⟩) (k+2) (k+2+m+1)) (L.take (k+2))):=by
     refine ⟨_,k+2+m+1,by rw [e5],by omega,by unfold maxLen; omega,okL_take' L F.o.ok _,.inr ⟨w.heap.size,0,rfl,leR,D.o.1.lt,fun i hi=>?_⟩⟩; rw [Nat.zero_add,D.o.1.cell i (by omega)]; rw [List.getD_eq_getElem?_getD,List.getD_eq_getElem?_getD,List.getElem?_take_of_lt (by omega)]
    have g6:=Hd e5; clear hL e5
    go_wp2_with fail
    refine (divByLimb_any w.heap.size _ (L.take (k+2)) s _ HI.o (by have:=g6.o; omega) H.o.1 (by have:=H.o.2.2.2.2; omega)).mono ?_; rintro e w7 ⟨u,U,r,rfl,hU,j3,m5,j4,hr,d8⟩; have HU:=Hd hU; have g8:Hid (IsL w.heap.size w7 (.slice (some ⟨I.heap.size,0,none⟩) (m+1) (m+1)) Q):=by
     have h:=(D.o.2.2.1.kept d8).isL (B:=w.heap.size) (cap:=m+1) (by have:=V.o; have:=E.o; omega) F.o.qok (by have:=F.o.qlen; omega) (by unfold maxLen; omega); rw [F.o.qlen] at h; exact h
    have HE:Hid (val a=val Q*val b+val U∧val U<val b∧isTrim U∧U.length≤k+2):=by
     have e:=F.o.eq; have tp:=F.o.top; unfold vfrom at e; rw [List.drop_zero,Nat.pow_zero,Nat.mul_one,Nat.zero_add,a8.o.1] at e; rw [List.drop_zero,a8.o.1] at tp; have h:=last_eq s (val a) (val b) (val Q) _ (val U) r H.o.1 e tp j4 hr; exact ⟨h.1,h.2,j3,by have:=g6.o; omega⟩
    have k1:Hid (Up w w7):=D.o.2.2.2.trans (d8.mono D.o.2.2.2.size); have l2:Hid (w.heap.size≤wr.heap.size):=D.o.2.2.2.size; obtain ⟨pu,cu,hu,_⟩:=hU; subst hu; clear j3 m5 j4 hr d8
    go_wp2_with fail
    refine (trimLimbs_any w.heap.size _ Q _ g8.o).mono ?_; rintro e w8 ⟨v,rfl,hcut,rfl⟩; have HW:Hid (IsL w.heap.size w8 v (trimL Q)):=hcut _ _ g8.o; have HT:Hid (val (trimL Q)=val Q∧(trimL Q).length≤m+1):=⟨val_trimL Q,by have:=trimL_len Q; have:=F.o.qlen; omega⟩; obtain ⟨pv,cv,hv,_⟩:=HW.o; subst hv; clear hcut
    go_wp2
    go_ret2
    exact ⟨_,_,trimL Q,U,rfl,HW.o,HU.o.mono l2.o,trimL_trim _,HE.o.2.2.1,HT.o.2,HE.o.2.2.2,by rw [HT.o.1]; exact HE.o.1,HE.o.2.1,k1.o⟩
  | succ i=>
    go_wp2_with fail
    rw [show i+(k+2)+1 - i=k+3 by omega]; refine (divStep_any w.heap.size i (k+2+m+1 - i) S.heap.size (k+2) k L M wr D.o.1 F.o.ok a8.o.2.2 (by have:=F.o.len; omega) (by have:=F.o.len; omega) D.o.2.1 (by have:=E.o; omega) a8.o.2.1 k7.o F.o.window (by omega)).mono ?_; rintro e w7 ⟨q,L7,rfl,h9,h8,c9,d0,m6,i1,j2,b6⟩; have g1:Hid (DivAt a b s k m M L7 (Q.set i q) i):=F.o.step m6 h8 c9 d0 i1 j2; have b7:RowT w7 I.heap.size Q:=b6.rowT (by have:=V.o; have:=E.o; omega) D.o.2.2.1; have a5:=b7.cell i (by have:=F.o.qlen; omega); have i7:=b7.frozen i; have J:Hid (RowT (w7.setCell ⟨I.heap.size,i,none⟩ (.int .u32 (q:Nat))) w.heap.size L7∧RowT (w7.setCell ⟨I.heap.size,i,none⟩ (.int .u32 (q:Nat))) S.heap.size M∧RowT (w7.setCell ⟨I.heap.size,i,none⟩ (.int .u32 (q:Nat))) I.heap.size (Q.set i q)∧Up w (w7.setCell ⟨I.heap.size,i,none⟩ (.int .u32 (q:Nat)))):=by
     have l5:=V.o; have l3:=E.o; refine ⟨h9.other _ _ (by show I.heap.size≠w.heap.size; omega),(b6.rowT (by omega) D.o.2.1).other _ _ (by show I.heap.size≠S.heap.size; omega),b7.set _ _ (by have:=F.o.qlen; omega),(D.o.2.2.2.trans b6.below).setCell (by show w.heap.size≤I.heap.size; omega) _⟩
    clear h9 h8 c9 d0 i1 j2 b6 b7
    go_wp2
    go_roundw
    case rel=>exact ⟨i,L7,Q.set i q,g1.o,by go_num,J.o.1,J.o.2.1,J.o.2.2.1,J.o.2.2.2⟩
    case measure=>simp [intOf]
def DivL (B:Nat) (w:World) (v u:Value) (a b Q U:List Nat):Prop:=
 (IsL B w v Q∧IsL B w u U)∧(isTrim Q∧isTrim U)∧(Q.length≤a.length∧U.length≤b.length+3)∧val a=val Q*val b+val U∧val U<val b
theorem ord_lt' (x y:Nat) (h:ord x y<0):x<y:=by
 unfold ord at h
 split at h
 ·assumption
 split at h<;>omega
theorem cmpL_lt_val (a b:List Nat) (ha:okL a) (hb:okL b) (ta:isTrim a) (tb:isTrim b) (hcm:cmpL a b<0):val a<val b:=by
 rw [cmpL_ord a b ha hb ta tb] at hcm; exact ord_lt' _ _ hcm
theorem cmpL_len (a b:List Nat) (hcm:0≤cmpL a b):b.length≤a.length:=by
 unfold cmpL at hcm
 by_cases h3:a.length<b.length
 ·simp [h3] at hcm<;>omega
 omega
theorem cmpL_len_lt (a b:List Nat) (hcm:cmpL a b<0):a.length≤b.length:=by
 unfold cmpL at hcm
 by_cases h3:b.length<a.length
 ·by_cases h4:a.length<b.length
  ·omega
  simp [h3,h4] at hcm<;>omega
 omega
theorem divLimbs_any (B:Nat) (va vb:Value) (a b:List Nat) (w:World) (hBw:B≤w.heap.size) (ha:IsL B w va a) (hb:IsL B w vb b) (hla:a.length≤100000) (hta:isTrim a) (htb:isTrim b) (hne:b≠[]) :
 Calls Tryz.prog 112 #[va,vb] w fun e w'=>∃ v u Q U,e=.returned (.tuple #[v,u])∧DivL B w' v u a b Q U∧Up w w':=by
 have V:=Hd ha; have HB:=Hd hb; have E:Hid (isTrim a∧isTrim b∧b≠[]∧B≤w.heap.size):=⟨hta,htb,hne,hBw⟩; obtain ⟨pa,ca,rfl,e3,a7,G,_⟩:=ha; obtain ⟨pb,cb,rfl,e4,a8,H,_⟩:=hb; have M:Hid (okL a∧okL b):=⟨G,H⟩; obtain ⟨c,hc⟩:=exW (cmpL a b); have Y:=Hd hc; have F : -1≤c∧c≤1:=by rw [← hc]; exact cmpL_bd a b
 obtain ⟨g0,g1⟩:=F; clear hc hta htb hne hBw G H a7 a8
 by_cases b3:c<0
 ·have L:Hid (DivL B w (.slice none 0 0) (.slice pa a.length ca) a b [] a):=by
   have Z:=cmpL_lt_val a b M.o.1 M.o.2 E.o.1 E.o.2.1 (by rw [Y.o]; exact b3); have hl:=cmpL_len_lt a b (by rw [Y.o]; exact b3); exact ⟨⟨⟨none,0,rfl,leR,(by unfold maxLen; omega),(fun x hx=>by cases hx),.inl rfl⟩,V.o⟩,⟨fun h=>absurd rfl h,E.o.1⟩,⟨Nat.zero_le _,by omega⟩,by simp [val],Z⟩
  go_enter Tryz.func112,Tryz.ntmps112
  go_wp2_with fail
  refine (compareLimbs_any B _ _ a b _ V.o HB.o).mono ?_; rintro e w1 ⟨rfl,j⟩; rw [Y.o]; have i:=Hd j; clear j
  go_wp2
  go_ret2
  exact ⟨_,_,[],a,rfl,⟨⟨L.o.1.1.below i.o,L.o.1.2.below i.o⟩,L.o.2⟩,i.o⟩
 have d1:Hid (b.length≤a.length):=cmpL_len a b (by rw [Y.o]; omega)
 by_cases h1:b.length=1
 ·obtain ⟨y,rfl⟩:∃ y,b=[y]:=by
   match b,h1 with
   | [y],_=>exact ⟨y,rfl⟩
  have b9:=getLast_getD [y] 0 rfl E.o.2.1; have g3:=M.o.2 y (by simp); have d9:0<y:=by
   simp at b9; omega
  obtain ⟨_,_,_,_,F⟩:=HB.o.cells; obtain ⟨bb,ob,rfl,d3,a9⟩:=F 0 (by simp); have I:w.cell? ⟨bb,ob+0,none⟩=some (.int .u32 (y:Nat)):=a9; have d0:Hid (∀ W,Up w W→W.cell? ⟨bb,ob,none⟩=some (.int .u32 (y:Nat))):=fun W hW=>(hW.cell (p:=⟨bb,ob,none⟩) d3).trans I; clear a9 I F b9
  go_enter Tryz.func112,Tryz.ntmps112
  go_wp2_with fail
  refine (compareLimbs_any B _ _ a [y] _ V.o HB.o).mono ?_; rintro e w1 ⟨rfl,j⟩; rw [Y.o]; have i:=Hd j; have S:=d0.o _ j; clear j
  go_wp2_with fail
  refine (divByLimb_any B _ a y _ (V.o.below i.o) hla d9 (by omega)).mono ?_; rintro e w2 ⟨v,q,r,rfl,hL,b6,J,s,hr,D⟩; have HL:Hid (IsL B w2 v q):=hL.mono (by have:=i.o.size; have:=E.o.2.2.2; omega); have HV:Hid (isTrim q∧q.length≤a.length∧val a=val q*y+r∧r<y):=⟨b6,J,s,hr⟩; have A:Hid (Up w w2):=i.o.trans (D.mono i.o.size); obtain ⟨pv,cv,Z,_⟩:=hL; subst Z; clear b6 J s D S
  go_wp2_with fail
  refine (limbsOf_trim r _ (by omega)).mono ?_; rintro e w3 ⟨u,t,rfl,hu,b7,T,d7,O⟩; have L:Hid (DivL B w3 (.slice pv q.length cv) u a [y] q t):=by
   refine ⟨⟨HL.o.below O,hu.mono (by have:=A.o.size; have:=E.o.2.2.2; omega)⟩,⟨HV.o.1,b7⟩,⟨HV.o.2.1,by omega⟩,?_,?_⟩
   ·rw [T]; simp only [val]; exact HV.o.2.2.1
   rw [T]; simp only [val]; exact HV.o.2.2.2
  have c9:Hid (Up w w3):=A.o.trans (O.mono A.o.size); obtain ⟨pu,cu,d8,_⟩:=hu; subst d8; clear b7 T d7 O
  go_wp2
  go_ret2
  exact ⟨_,_,q,t,rfl,L.o,c9.o⟩
 have hp:b.length≠0:=fun h=>E.o.2.2.1 (List.eq_nil_of_length_eq_zero h); obtain ⟨k,hk⟩:∃ k,b.length=k+2:=⟨b.length - 2,by omega⟩; obtain ⟨m,hm⟩:∃ m,a.length=k+2+m:=⟨a.length - (k+2),by have:=d1.o; omega⟩; have HK:Hid (b.length=k+2∧a.length=k+2+m∧k+2+m≤100000):=⟨hk,hm,by omega⟩; have z1:((b.length:Int)==1)=false:=by rw [beq_eq_false_iff_ne]; omega
 clear hk hm
 go_enter Tryz.func112,Tryz.ntmps112
 go_wp2_with fail
 refine (compareLimbs_any B _ _ a b _ V.o HB.o).mono ?_; rintro e w1 ⟨rfl,j⟩; rw [Y.o]; have i:=Hd j; clear j
 go_wp2_with fail
 refine (divLong_any B (.slice pa a.length ca) (.slice pb b.length cb) a b k m w1 (V.o.below i.o) (HB.o.below i.o) HK.o.1 HK.o.2.1 HK.o.2.2 E.o.2.1).mono ?_; rintro e w2 ⟨v,u,Q,U,rfl,Z,hu,b4,b5,d5,d6,s,K,D⟩; have L:Hid (DivL B w2 v u a b Q U):=by
  have a6:B≤w1.heap.size:=by have:=i.o.size; have:=E.o.2.2.2; omega
  exact ⟨⟨Z.mono a6,hu.mono a6⟩,⟨b4,b5⟩,⟨by have:=HK.o; omega,by have:=HK.o; omega⟩,s,K⟩
 have A:Hid (Up w w2):=i.o.trans (D.mono i.o.size); clear Z hu b4 b5 d5 d6 s K D
 go_wp2
 go_ret2
 exact ⟨_,_,Q,U,rfl,L.o,A.o⟩
end Go.Proofs.YtnhbmpnhijgpmaaGreatDoor
