import Derived.Test.YtknfmkeipeikkaaGreatDoorMulLimbsp
import Derived.Test.YtknfmkeipeikkaaGreatDoorM2p
import Derived.Deep.QuietTactic
import Derived.BigQuiet
import Derived.WalkSmall
import Derived.Test.YtknfmkeipeikkaaGreatDoorDivGp
import Derived.Test.YtknfmkeipeikkaaGreatDoorPCSp
set_option maxRecDepth 100000
set_option maxHeartbeats 4000000
namespace Go.Proofs.YtknfmkeipeikkaaGreatDoor
open Go.ChangeShapes Go.WideShapes Go.ChangeAt Go.RowKit
theorem vfrom_set (l:List Nat) (k x:Nat) (hk:k<l.length):vfrom (l.set k x) k=vfrom l (k+1)*1000000000+x:=by
 rw [vfrom_step _ _ (by simpa using hk)]; have e1:vfrom (l.set k x) (k+1)=vfrom l (k+1):=by
  unfold vfrom; rw [List.drop_set_of_lt (by omega)]
 have h:(l.set k x).getD k 0=x:=by rw [List.getD_eq_getElem?_getD,List.getElem?_set_self (by omega)]; rfl
 rw [e1,h]
theorem div_step (Va Vq d r x Z:Nat) (h:Va=Vq*d+r) (hZ:r*1000000000+x=Z):Va*1000000000+x=(Vq*1000000000+Z / d)*d+Z % d:=by
 have j:=Nat.div_add_mod Z d; rw [Nat.add_mul,h,Nat.add_mul,Nat.mul_right_comm,Nat.mul_comm (Z / d) d]; omega
theorem div_lt (d r x Z:Nat) (hd:0<d) (hr:r<d) (hx:x<1000000000) (hZ:r*1000000000+x=Z):Z / d<1000000000:=by
 rw [Nat.div_lt_iff_lt_mul hd]; have:(r+1)*1000000000≤d*1000000000:=Nat.mul_le_mul_right _ hr; omega
theorem divByLimb_any (B:Nat) (va:Value) (a:List Nat) (d:Nat) (w:World) (ha:IsL B w va a) (hla:a.length≤100000) (hd:0<d) (hd2:d≤1000000000) :
 Calls Tryz.prog 102 #[va,.int .u32 (d:Nat)] w fun e w'=>∃ v q r,e=.returned (.tuple #[v,.int .u32 (r:Nat)])∧IsL w.heap.size w' v q∧isTrim q∧q.length≤a.length∧val a=val q*d+r∧r<d∧Up w w':=by
 obtain ⟨i0,V,d1,d2,d3⟩:=info_parts Tryz.info_u32; obtain ⟨pa,ca,rfl,_⟩:=id ha; obtain ⟨_,_,_,T,y⟩:=ha.cells; have HA:=Hd y; clear y ha
 go_enter Tryz.func102,Tryz.ntmps102
 go_wp2_with (at_make; refine wpList_make_full _ rfl _ _ 51 rfl w.heap.size 87 i0 (.int .u32 0) 1 Tryz.underlying51 V d1 d2 .i64 .i64 _ _ a.length rfl rfl ?m0 ?m1 ?m2 ?m3 ?m4 ?_)
 try (case m0=>first|rfl|omega)
 try (case m1=>first|rfl|omega)
 try (case m2=>(first|omega|(rw [d3]; omega)))
 try (case m3=>(unfold maxLen; omega))
 try (case m4=>exact leR)
 intro w1 u U
 first|rw [made_zero] at u|rw [made_zero'] at u
 have D:RowT w1 w.heap.size (List.replicate a.length 0):=(row_of_full u).tail; have M:Up w w1:=(Below.refl _ _).grown U leR (fun k h=>by cases h); clear u U
 go_wp2
 go_loopw [7,8] (fun rv iv wr=>∃ (j r:Nat) (L:List Nat),j≤a.length∧r<d∧L.length=a.length∧okL L∧RowT wr w.heap.size L∧rv=.int .u64 (r:Nat)∧iv=.int .i64 ((j:Int) - 1) ∧
  vfrom a j=vfrom L j*d+r∧Up w wr) (fun _ iv _=>(intOf iv+1).toNat)
 case atStart=>exact ⟨a.length,0,_,by omega,by omega,by simp,fun x hx=>by rw [List.eq_of_mem_replicate hx]; omega,D,rfl,val_int (by omega),by rw [vfrom_end]; unfold vfrom; simp [val],M⟩
 case round=>
  clear D M; obtain ⟨j,r,L,hj,hr,c7,s,D,rfl,rfl,m,K⟩:=hrel
  cases j with
  | zero=>
    unfold vfrom at m; rw [List.drop_zero,List.drop_zero] at m; have HI:Hid (IsL w.heap.size wr (.slice (some ⟨w.heap.size,0,none⟩) a.length a.length) L):=by
     have h:=D.isL (B:=w.heap.size) (cap:=a.length) leR s (by omega) (by unfold maxLen; omega); rw [c7] at h; exact h
    have HT:Hid (val a=val (trimL L)*d+r∧(trimL L).length≤a.length∧isTrim (trimL L)):=⟨by rw [val_trimL]; exact m,by have:=trimL_len L; omega,trimL_trim _⟩; have b3:=Hd K; clear m D K s
    go_wp2_with fail
    refine (trimLimbs_any w.heap.size _ L _ HI.o).mono ?_; rintro e w5 ⟨v,rfl,hcut,rfl⟩; have HW:Hid (IsL w.heap.size w5 v (trimL L)):=hcut _ _ HI.o; obtain ⟨pv,cv,hv,_⟩:=HW.o; subst hv; clear hcut
    go_wp2
    go_ret2
    exact ⟨_,_,r,rfl,HW.o,HT.o.2.2,HT.o.2.1,HT.o.1,hr,b3.o⟩
  | succ k=>
    obtain ⟨ba,oa,rfl,a3,y⟩:=HA.o k (by omega); rw [← K.cell (p:=⟨ba,oa+k,none⟩) a3] at y; have J:=okL_getD a T k (by omega); have I:=vfrom_step a k (by omega); obtain ⟨x,hx⟩:=exW (a.getD k 0); rw [hx] at y J I; obtain ⟨Z,O⟩:=exW (r*1000000000+x); have H:=div_lt d r x Z hd hr J O; have a5:=Nat.mod_lt Z hd; have b8:Hid (vfrom a k=vfrom (L.set k (Z / d)) k*d+Z % d):=by
     unfold Hid
     rw [I,vfrom_set L k _ (by omega)]; exact div_step _ _ d r x Z m O
    have c9:=D.cell k (by omega); have e0:=D.frozen k; have b7:Hid (∀ v:Int,v=((Z / d:Nat):Int)→RowT (wr.setCell ⟨w.heap.size,k,none⟩ (.int .u32 v)) w.heap.size (L.set k (Z / d))):=fun v hv=>by
     rw [hv]; exact D.set _ _ (by omega)
    have a9:Hid (∀ v,Up w (wr.setCell ⟨w.heap.size,k,none⟩ v)):=fun v=>K.setCell leR _; have E:Hid (okL (L.set k (Z / d))∧(L.set k (Z / d)).length=a.length):=⟨okL_set L s _ _ H,by simp; omega⟩; obtain ⟨X,hX⟩:∃ X:Int,(x:Int)=X:=⟨_,rfl⟩; rw [hX] at y; obtain ⟨G,hG⟩:∃ G:Int,(d:Int)=G:=⟨_,rfl⟩; obtain ⟨Y,hY⟩:∃ Y:Int,(r:Int)=Y:=⟨_,rfl⟩; have e1:(Y*1000000000+X) / G=((Z / d:Nat):Int):=by rw [← O,← hX,← hG,← hY]; rfl
    have e2:(Y*1000000000+X) % G=((Z % d:Nat):Int):=by rw [← O,← hX,← hG,← hY]; rfl
    have x1:0≤X:=by omega
    have x2:X<1000000000:=by omega
    have y1:0≤Y:=by omega
    have y2:Y<1000000000:=by omega
    have g1:0<G:=by omega
    have g2:G≤1000000000:=by omega
    have k1:0≤(Y*1000000000+X) / G:=by rw [e1]; exact Int.natCast_nonneg _
    have k2:(Y*1000000000+X) / G<1000000000:=by rw [e1]; exact Int.ofNat_lt.2 H
    have b4:Hid ((Y*1000000000+X) / G=((Z / d:Nat):Int)):=e1; have b5:Hid ((Y*1000000000+X) % G=((Z % d:Nat):Int)):=e2; have b6:=Hd a5; rw [hG,hY]; clear D s m K I e1 e2 hx hX hG hY O J hr H a5
    go_wp2
    go_roundw
    case rel=>exact ⟨k,Z % d,L.set k (Z / d),by omega,b6.o,E.o.2,E.o.1,b7.o _ b4.o,val_int b5.o,by go_num,b8.o,a9.o _⟩
    case measure=>simp [intOf]
def GuessOf (x2 x1 x0 d1 d0 g:Nat):Prop:=
 g*(d1*1000000000+d0)≤(x2*1000000000+x1)*1000000000+x0∧(x2*1000000000+x1)*1000000000+x0<(g+1)*(d1*1000000000+d0)
def GuessAt (x2 x1 x0 d1 d0 g l:Nat):Prop:=
 g*d1+l=x2*1000000000+x1∧l≤2000000001∧g≤1000000001∧(x2*1000000000+x1)*1000000000+x0<(g+1)*(d1*1000000000+d0)
theorem guess_start (x2 x1 x0 d1 d0:Nat) (h1:500000000≤d1) (h2:d1<1000000000) (hx2:x2≤d1) (hx1:x1<1000000000) (hx0:x0<1000000000) :
 GuessAt x2 x1 x0 d1 d0 ((x2*1000000000+x1) / d1) ((x2*1000000000+x1) % d1):=by
 have e:=Nat.div_add_mod (x2*1000000000+x1) d1; have l:=Nat.mod_lt (x2*1000000000+x1) (show d1 > 0 by omega); have g:(x2*1000000000+x1) / d1≤1000000001:=by
  apply Nat.le_of_lt_succ; rw [Nat.div_lt_iff_lt_mul (by omega)]; omega
 obtain ⟨q,h⟩:=exW ((x2*1000000000+x1) / d1); obtain ⟨r,j⟩:=exW ((x2*1000000000+x1) % d1); rw [h,j]; rw [h,j] at e; rw [j] at l; rw [h] at g; clear h j; refine ⟨by rw [Nat.mul_comm]; exact e,by omega,g,?_⟩; rw [Nat.mul_add,← Nat.mul_assoc,Nat.add_mul q 1 d1,Nat.one_mul,Nat.mul_comm q d1]; have:0≤(q+1)*d0:=Nat.zero_le _; omega
theorem lin1 (T v l x0 u:Nat) (e:v+l=T) (hc:l*1000000000+x0<u):T*1000000000+x0<v*1000000000+u:=by
 subst e; rw [Nat.add_mul,Nat.add_assoc]; exact Nat.add_lt_add_left hc _
theorem guess_round {x2 x1 x0 d1 d0 g l:Nat} (h:GuessAt x2 x1 x0 d1 d0 g l) (h2:d1<1000000000) (hd0:d0<1000000000) (hc:l*1000000000+x0<g*d0) :
 1≤g∧GuessAt x2 x1 x0 d1 d0 (g - 1) (l+d1):=by
 obtain ⟨e,hl,m,hb⟩:=h; have s:1≤g:=by
  apply Nat.pos_of_ne_zero; rintro rfl; rw [Nat.zero_mul] at hc; omega
 obtain ⟨k,rfl⟩:∃ k,g=k+1:=⟨g - 1,by omega⟩; have p:(k+1)*d0≤1000000001*999999999:=Nat.mul_le_mul m (by omega); rw [Nat.add_sub_cancel]; rw [Nat.add_mul,Nat.one_mul] at e; have j:l<1000000000:=by
  have:(1000000001*999999999:Nat)=1000000000*1000000000 - 1:=by decide
  omega
 refine ⟨by omega,by omega,by omega,by omega,?_⟩; clear hb p j hl m s; rw [Nat.mul_add,← Nat.mul_assoc,Nat.add_mul k 1 d1,Nat.one_mul]; exact lin1 _ _ l _ _ e hc
theorem guess_end {x2 x1 x0 d1 d0 g l:Nat} (h:GuessAt x2 x1 x0 d1 d0 g l) (hc:g*d0≤l*1000000000+x0):GuessOf x2 x1 x0 d1 d0 g:=by
 obtain ⟨e,hl,j,hb⟩:=h; refine ⟨?_,hb⟩; rw [Nat.mul_add,← Nat.mul_assoc]; omega
theorem guessLimb_any (R off cap D doff dcap n:Nat) (x2 x1 x0 d1 d0:Nat) (w:World) (hR:R<w.heap.size) (hn:2≤n) (hn2:n≤200000)
 (c2:w.cell? ⟨R,off+n,none⟩=some (.int .u32 (x2:Nat))) (c1:w.cell? ⟨R,off+(n - 1),none⟩=some (.int .u32 (x1:Nat))) (c0:w.cell? ⟨R,off+(n - 2),none⟩=some (.int .u32 (x0:Nat)))
 (e1:w.cell? ⟨D,doff+(n - 1),none⟩=some (.int .u32 (d1:Nat))) (e0:w.cell? ⟨D,doff+(n - 2),none⟩=some (.int .u32 (d0:Nat)))
 (h1:500000000≤d1) (h2:d1<1000000000) (h3:d0<1000000000) (hx2:x2≤d1) (hx1:x1<1000000000) (hx0:x0<1000000000) :
 Calls Tryz.prog 121 #[.slice (some ⟨R,off,none⟩) (n+1) cap,.slice (some ⟨D,doff,none⟩) n dcap] w fun e w'=>∃ g:Nat,e=.returned (.int .u64 (g:Nat))∧GuessOf x2 x1 x0 d1 d0 g∧Up w w':=by
 have c7:Hid (GuessAt x2 x1 x0 d1 d0 ((x2*1000000000+x1) / d1) ((x2*1000000000+x1) % d1)):=guess_start x2 x1 x0 d1 d0 h1 h2 hx2 hx1 hx0; obtain ⟨k,rfl⟩:∃ k,n=k+2:=⟨n - 2,by omega⟩; rw [show k+2 - 1=k+1 by omega] at c1 e1; rw [show k+2 - 2=k by omega] at c0 e0; have V:Hid (∀ W,Up w W→W.cell? ⟨R,off+k,none⟩=some (.int .u32 (x0:Nat))):=fun W hW=>(hW.cell (p:=⟨R,off+k,none⟩) hR).trans c0; obtain ⟨T,E⟩:∃ X:Int,(x2:Int)=X:=⟨_,rfl⟩; obtain ⟨O,y⟩:∃ X:Int,(x1:Int)=X:=⟨_,rfl⟩; obtain ⟨I,u⟩:∃ X:Int,(d1:Int)=X:=⟨_,rfl⟩; obtain ⟨H,J⟩:∃ X:Int,(d0:Int)=X:=⟨_,rfl⟩; obtain ⟨Y,M⟩:∃ X:Int,(x0:Int)=X:=⟨_,rfl⟩; have q1:(T*1000000000+O) / I=(((x2*1000000000+x1) / d1:Nat):Int):=by rw [← E,← y,← u]; rfl
 have q2:(T*1000000000+O) % I=(((x2*1000000000+x1) % d1:Nat):Int):=by rw [← E,← y,← u]; rfl
 have a8:Hid ((T*1000000000+O) / I=(((x2*1000000000+x1) / d1:Nat):Int)):=q1; have a9:Hid ((T*1000000000+O) % I=(((x2*1000000000+x1) % d1:Nat):Int)):=q2; have HL:Hid ((d1:Int)=I∧(d0:Int)=H∧(x0:Int)=Y):=⟨u,J,M⟩; have HH:Hid (d1<1000000000∧d0<1000000000):=⟨h2,h3⟩; rw [E] at c2; rw [y] at c1; rw [M] at c0 V; rw [u] at e1; rw [J] at e0; have b1:0≤T:=by omega
 have b2:T<1000000000:=by omega
 have b3:0≤O:=by omega
 have b4:O<1000000000:=by omega
 have b5:500000000≤I:=by omega
 have b6:I<1000000000:=by omega
 have b7:0≤H:=by omega
 have b8:H<1000000000:=by omega
 have b9:0≤Y:=by omega
 have d7:Y<1000000000:=by omega
 clear E y u J M q1 q2 h1 h2 h3 hx2 hx1 hx0
 go_enter Tryz.func121,Tryz.ntmps121
 go_wp2
 go_quiet (fail)
 go_wp2
 go_quiet (fail)
 go_wp2
 go_quiet (fail)
 go_wp2
 go_loopw [9,10] (fun gv lv wr=>∃ g l:Nat,gv=.int .u64 (g:Nat)∧lv=.int .u64 (l:Nat)∧GuessAt x2 x1 x0 d1 d0 g l∧Up w wr) (fun gv _ _=>(intOf gv).toNat)
 case atStart=>exact ⟨_,_,val_int a8.o,val_int a9.o,c7.o,below_drewN (below_drewN (below_drewN (Below.refl _ _) _) _) _⟩
 case round=>
  obtain ⟨g,l,rfl,rfl,K,hB⟩:=hrel; have d8:=V.o _ hB; have HB:=Hd hB; have hg:=K.2.2.1; have hl:=K.2.1; have HG:=Hd K; have hp:g*d0≤1000000001*999999999:=Nat.mul_le_mul hg (by have:=HH.o; omega); obtain ⟨P,U⟩:=exW (g*d0); rw [U] at hp; obtain ⟨G,h⟩:∃ G:Int,(g:Int)=G:=⟨_,rfl⟩; obtain ⟨L,j⟩:∃ L:Int,(l:Int)=L:=⟨_,rfl⟩; have m:G*H=(P:Int):=by rw [← U,← h,← HL.o.2.1]; rfl
  have m1:0≤G*H:=by rw [m]; omega
  have m2:G*H≤1000000001000000000:=by rw [m]; omega
  have m3:0≤L:=by omega
  have m4:L≤2000000001:=by omega
  have m5:0≤G:=by omega
  have m6:G≤1000000001:=by omega
  by_cases Z:l*1000000000+x0<g*d0
  ·have HN:Hid (1≤g∧GuessAt x2 x1 x0 d1 d0 (g - 1) (l+d1)):=guess_round K HH.o.1 HH.o.2 Z; have t1:L*1000000000+Y<G*H:=by rw [m]; rw [U] at Z; have:=HL.o.2.2; omega
   have m7:1≤G:=by have:=HN.o.1; omega
   have s:Hid ((g:Int)=G∧(l:Int)=L):=⟨h,j⟩; rw [h,j]; clear hB K hp U m h j hg hl Z
   go_wp2
   go_roundw
   case rel=>exact ⟨g - 1,l+d1,val_int (by have:=s.o; have:=HN.o.1; omega),val_int (by have:=s.o; have:=HL.o.1; omega),HN.o.2,HB.o⟩
   case measure=>simp [intOf]; have:=s.o; have:=HN.o.1; omega
  ·have HE:Hid (GuessOf x2 x1 x0 d1 d0 g):=guess_end K (by omega); have t1:G*H≤L*1000000000+Y:=by rw [m]; rw [U] at Z; have:=HL.o.2.2; omega
   have s:Hid ((g:Int)=G∧(l:Int)=L):=⟨h,j⟩; rw [h,j]; clear hB K hp U m h j hg hl Z
   go_wp2
   go_ret
   exact ⟨g,ret_int s.o.1.symm,HE.o,HB.o⟩
theorem knuth (X3 D2 K xl dl g:Nat) (hxl:xl<K) (hdl:dl<K) (h1:g*D2≤X3) (h2:X3<(g+1)*D2) (hX3:X3<1000000000000000000000000000) (hD2:500000000000000000≤D2)
 (hX:X3*K+xl<(D2*K+dl)*1000000000) :
 g*(D2*K+dl)≤X3*K+xl+(D2*K+dl)∧X3*K+xl<(g+1)*(D2*K+dl)∧g≤1000000000:=by
 have a1:X3*K+xl<(g+1)*(D2*K+dl):=by
  have e1:(X3+1)*K≤(g+1)*D2*K:=Nat.mul_le_mul_right K h2; have j:(g+1)*(D2*K+dl)=(g+1)*D2*K+(g+1)*dl:=by rw [Nat.mul_add,Nat.mul_assoc]
  rw [Nat.add_mul,Nat.one_mul] at e1; omega
 have m:g≤D2:=by
  apply Nat.le_of_not_lt; intro h; have e1:500000000000000001*500000000000000000≤g*D2:=Nat.mul_le_mul (by omega) hD2; omega
 have a2:g*(D2*K+dl)≤X3*K+xl+(D2*K+dl):=by
  have e1:g*D2*K≤X3*K:=Nat.mul_le_mul_right K h1; have j:g*(D2*K+dl)=g*D2*K+g*dl:=by rw [Nat.mul_add,Nat.mul_assoc]
  have s:g*dl≤D2*K:=Nat.mul_le_mul m (by omega); omega
 refine ⟨a2,a1,?_⟩; apply Nat.le_of_not_lt; intro h; have e1:1000000001*(D2*K+dl)≤g*(D2*K+dl):=Nat.mul_le_mul_right _ h; omega
theorem step_right (P Wn x Dv g c W':Nat) (h:W'+g*Dv=Wn+P*c) (hc:c≤x) (hX:Wn+P*x<(g+1)*Dv) (hD:Dv≤P):c=x∧Wn+P*x=g*Dv+W'∧W'<Dv:=by
 rw [Nat.add_mul,Nat.one_mul] at hX; have j:c=x:=by
  apply Nat.le_antisymm hc; apply Nat.le_of_not_lt; intro m; have e:P*(c+1)≤P*x:=Nat.mul_le_mul_left P m; rw [Nat.mul_add,Nat.mul_one] at e; omega
 subst j; exact ⟨rfl,by omega,by omega⟩
theorem step_wrong (P Wn x Dv g c W' W2 c2:Nat) (h:W'+g*Dv=Wn+P*c) (hc:x<c) (hX:g*Dv≤Wn+P*x+Dv) (hW:W'<P) (hD:Dv≤P) (h2:W2+P*c2=W'+Dv) (hW2:W2<P) :
 1≤g∧Wn+P*x=(g - 1)*Dv+W2∧W2<Dv:=by
 obtain ⟨k,rfl⟩:∃ k,c=x+1+k:=⟨c - x - 1,by omega⟩; have s:P*(x+1+k)=P*x+P+P*k:=by rw [Nat.mul_add,Nat.mul_add,Nat.mul_one]
 rw [s] at h; have y:1≤g:=by
  apply Nat.pos_of_ne_zero; rintro rfl; rw [Nat.zero_mul] at h; omega
 obtain ⟨q,rfl⟩:∃ q,g=q+1:=⟨g - 1,by omega⟩; rw [Nat.add_mul,Nat.one_mul] at h hX; rw [Nat.add_sub_cancel]; have hk:k=0:=by
  apply Nat.eq_zero_of_not_pos; intro m; have:P*1≤P*k:=Nat.mul_le_mul_left P m; omega
 subst hk; rw [Nat.mul_zero] at h; have j:c2=1:=by
  have u:c2<2:=by
   apply Nat.lt_of_not_le; intro m; have:P*2≤P*c2:=Nat.mul_le_mul_left P m; omega
  have l:c2≠0:=by
   rintro rfl; rw [Nat.mul_zero] at h2; omega
  omega
 subst j; rw [Nat.mul_one] at h2; exact ⟨y,by omega,by omega⟩
theorem ar2 (V a b K:Nat):V+K*a+K*1000000000*b=(b*1000000000+a)*K+V:=by grind
theorem ar3 (V a b c K:Nat):(b*1000000000+a)*K+V+K*1000000000*1000000000*c=((c*1000000000+b)*1000000000+a)*K+V:=by grind
theorem val_top2 (l:List Nat) (k:Nat):val (l.take (k+2))=(l.getD (k+1) 0*1000000000+l.getD k 0)*1000000000 ^ k+val (l.take k):=by
 rw [val_take_succ l (k+1),val_take_succ l k,Nat.pow_succ]; exact ar2 _ _ _ _
theorem val_top3 (l:List Nat) (k:Nat):val (l.take (k+3))=((l.getD (k+2) 0*1000000000+l.getD (k+1) 0)*1000000000+l.getD k 0)*1000000000 ^ k+val (l.take k):=by
 rw [val_take_succ l (k+2),val_top2,Nat.pow_succ,Nat.pow_succ]; exact ar3 _ _ _ _ _
theorem okL_take' (l:List Nat) (h:okL l) (n:Nat):okL (l.take n):=fun x hx=>h x (List.mem_of_mem_take hx)
theorem okL_drop (l:List Nat) (h:okL l) (n:Nat):okL (l.drop n):=fun x hx=>h x (List.mem_of_mem_drop hx)
theorem val_take_lt (l:List Nat) (h:okL l) (n:Nat):val (l.take n)<1000000000 ^ n:=val_lt_of _ (okL_take' l h n) n (by rw [List.length_take]; omega)
theorem base_lt (T x N:Nat) (hT:T<N) (hx:x<1000000000):T*1000000000+x<N*1000000000:=by
 have h:(T+1)*1000000000≤N*1000000000:=Nat.mul_le_mul_right _ hT; rw [Nat.add_mul,Nat.one_mul] at h; exact Nat.lt_of_lt_of_le (Nat.add_lt_add_left hx _) h
theorem top_le (x2 d1 W T P:Nat) (h:W+P*1000000000*x2<T*1000000000) (hT:T<P*(d1+1)):x2≤d1:=by
 apply Nat.le_of_not_lt; intro j; have e:P*1000000000*(d1+1)≤P*1000000000*x2:=Nat.mul_le_mul_left _ j; have m:P*1000000000*(d1+1)=P*(d1+1)*1000000000:=by grind
 omega
theorem guess_whole (M Dl:List Nat) (k g:Nat) (hM:okL M) (hD:okL Dl) (hl:Dl.length=k+2) (htop:500000000≤Dl.getD (k+1) 0)
 (hlt:val (M.take (k+3))<val Dl*1000000000) (hg:GuessOf (M.getD (k+2) 0) (M.getD (k+1) 0) (M.getD k 0) (Dl.getD (k+1) 0) (Dl.getD k 0) g) (hml:k+3≤M.length) :
 g*val Dl≤val (M.take (k+3))+val Dl∧val (M.take (k+3))<(g+1)*val Dl∧g≤1000000000:=by
 have e1:=val_top3 M k; have h:=val_top2 Dl k; rw [List.take_of_length_le (by omega)] at h; have u:=val_take_lt M hM k; have s:=val_take_lt Dl hD k; have b2:=okL_getD M hM (k+2) (by omega); have b1:=okL_getD M hM (k+1) (by omega); have b0:=okL_getD M hM k (by omega); obtain ⟨j,m⟩:=hg; rw [e1,h] at hlt ⊢; exact knuth _ _ _ _ _ g u s j m (base_lt _ _ 1000000000000000000 (base_lt _ _ 1000000000 b2 b1) b0) (by omega) hlt
theorem x2_le (M Dl:List Nat) (k:Nat) (hD:okL Dl) (hl:Dl.length=k+2) (hlt:val (M.take (k+3))<val Dl*1000000000):M.getD (k+2) 0≤Dl.getD (k+1) 0:=by
 have e1:=val_take_succ M (k+2); have h:=val_take_succ Dl (k+1); rw [List.take_of_length_le (by omega)] at h; have j:=val_take_lt Dl hD (k+1); rw [e1,Nat.pow_succ] at hlt; exact top_le _ _ _ _ (1000000000 ^ (k+1)) hlt (by rw [h,Nat.mul_add,Nat.mul_one]; omega)
theorem divStep_any (R off cap D dcap k:Nat) (A Dl:List Nat) (w:World) (hR:RowT w R A) (hAok:okL A) (hl:Dl.length=k+2) (hn:off+(k+3)≤A.length) (hA:A.length≤150000) (hD:RowT w D Dl) (hDR:D≠R) (hDok:okL Dl)
 (htop:500000000≤Dl.getD (k+1) 0) (hlt:val ((A.drop off).take (k+3))<val Dl*1000000000) (hcap:k+3≤cap) :
 Calls Tryz.prog 115 #[.slice (some ⟨R,off,none⟩) (k+3) cap,.slice (some ⟨D,0,none⟩) (k+2) dcap] w fun e w'=>∃ (q:Nat) (L:List Nat),e=.returned (.int .u32 (q:Nat))∧RowT w' R L∧L.length=A.length∧okL L∧L.take off=A.take off∧q<1000000000 ∧
  val ((A.drop off).take (k+3))=q*val Dl+val ((L.drop off).take (k+2))∧val ((L.drop off).take (k+2))<val Dl∧Only R w w':=by
 have HM:Hid (okL (A.drop off)∧k+3≤(A.drop off).length):=⟨okL_drop A hAok off,by simp; omega⟩; have c2:=hR.cell (off+(k+2)) (by omega); have c1:=hR.cell (off+(k+1)) (by omega); have c0:=hR.cell (off+k) (by omega); have e1:=hD.cell (k+1) (by omega); have e0:=hD.cell k (by omega); have b1:=okL_getD A hAok (off+(k+1)) (by omega); have b0:=okL_getD A hAok (off+k) (by omega); have d1:=okL_getD Dl hDok (k+1) (by omega); have d0:=okL_getD Dl hDok k (by omega); have b3:=x2_le (A.drop off) Dl k hDok hl hlt; rw [drop_getD] at b3; have d4:=hR.lt; have e5:=hD.lt; have HG:Hid (∀ W,True→Calls Tryz.prog 121 #[.slice (some ⟨R,off,none⟩) (k+3) cap,.slice (some ⟨D,0,none⟩) (k+2) dcap] w fun e w'=>∃ g:Nat,e=.returned (.int .u64 (g:Nat))∧GuessOf (A.getD (off+(k+2)) 0) (A.getD (off+(k+1)) 0) (A.getD (off+k) 0) (Dl.getD (k+1) 0) (Dl.getD k 0) g∧Up w w'):=fun (_:World) _=>
  guessLimb_any R off cap D 0 dcap (k+2) _ _ _ _ _ w d4 (by omega) (by omega) c2 (by rw [show k+2 - 1=k+1 by omega]; exact c1) (by rw [show k+2 - 2=k by omega]; exact c0) (by rw [show 0+(k+2 - 1)=k+1 by omega]; exact e1) (by rw [show 0+(k+2 - 2)=k by omega]; exact e0) htop d1 d0 b3 b1 b0
 have b7:Hid (RowT w R A∧RowT w D Dl):=⟨hR,hD⟩; have a3:Hid (val ((A.drop off).take (k+3))<val Dl*1000000000∧500000000≤Dl.getD (k+1) 0):=⟨hlt,htop⟩; clear c2 c1 c0 e1 e0 b1 b0 d1 d0 b3 hR hD hlt htop
 go_enter Tryz.func115,Tryz.ntmps115
 go_wp2_with fail
 refine (HG.o w trivial).mono ?_; rintro e w1 ⟨g,rfl,hg,U⟩; have a7:Only R w w1:=Only.of U (by omega); have e2:=Hd a7; have y:Hid (RowT w1 R A∧RowT w1 D Dl):=by
  refine ⟨?_,a7.rowT hDR b7.o.2⟩; obtain ⟨t,h⟩:=b7.o.1; exact ⟨t,(U.block R d4).trans h⟩
 have hw:=guess_whole (A.drop off) Dl k g HM.o.1 hDok hl a3.o.2 a3.o.1 (by rw [drop_getD,drop_getD,drop_getD]; exact hg) HM.o.2; have HW:Hid (g*val Dl≤val ((A.drop off).take (k+3))+val Dl∧val ((A.drop off).take (k+3))<(g+1)*val Dl):=⟨hw.1,hw.2.1⟩; have e8:=hw.2.2; have b9:Hid (D<w1.heap.size):=Nat.lt_of_lt_of_le e5 U.size; clear hg U a7 hw
 go_wp2_with fail
 have M:=subScaledAt_any R off cap g (some ⟨D,0,none⟩) dcap A Dl w1 y.o.1 hAok (by omega) (by omega) hDok e8 (fun i hi=>⟨D,0,rfl,⟨b9.o,hDR⟩,by rw [Nat.zero_add]; exact y.o.2.cell i hi⟩); rw [hl] at M; refine M.mono ?_; clear M; rintro e w2 ⟨c,L,rfl,H,a6,J,a8,a9,h1,u,E⟩; have b6:Hid (Only R w w2):=e2.o.trans E; have b8:Hid (RowT w2 R L∧RowT w2 D Dl):=⟨H,E.rowT hDR y.o.2⟩; have d5:=H.cell (off+(k+2)) (by omega); have hx:=getD_drop L A (off+(k+2)) a8; rw [hx] at d5; obtain ⟨x,b4⟩:=exW (A.getD (off+(k+2)) 0); rw [b4] at d5; have f5:=okL_getD A hAok (off+(k+2)) (by omega); rw [b4] at f5; have m:=val_seg_succ A off (k+2); rw [b4] at m; have a5:val Dl<1000000000 ^ (k+2):=val_lt_of Dl hDok _ (by omega); have e4:Hid (D<w2.heap.size):=Nat.lt_of_lt_of_le b9.o E.below.size; have j:Hid (RowT w2 R L∧L.length=A.length∧okL L∧L.take off=A.take off):=⟨H,a6,J,a9⟩
 by_cases e7:c≤x
 ·have Y:=step_right (1000000000 ^ (k+2)) _ x (val Dl) g c _ u e7 (by rw [← m]; exact HW.o.2) (by omega); have T:Hid (g<1000000000∧val ((A.drop off).take (k+3))=g*val Dl+val ((L.drop off).take (k+2))∧val ((L.drop off).take (k+2))<val Dl):=by
   have hE:val ((A.drop off).take (k+3))=g*val Dl+val ((L.drop off).take (k+2)):=m.trans Y.2.1; refine ⟨?_,hE,Y.2.2⟩; apply Nat.lt_of_not_le; intro h9; have h8:1000000000*val Dl≤g*val Dl:=Nat.mul_le_mul_right _ h9; have:=a3.o.1; omega
  have t1:(c:Int)≤(x:Int):=by omega
  have gb:g<1000000000:=T.o.1; clear u m Y H a6 J a8 a9 E hx a5
  go_wp2
  go_ret
  exact ⟨g,L,rfl,j.o.1,j.o.2.1,j.o.2.2.1,j.o.2.2.2,T.o.1,T.o.2.1,T.o.2.2,b6.o⟩
 have t1:(x:Int)<(c:Int):=by omega
 have HV:Hid (val ((L.drop off).take (k+2))+g*val Dl=val ((A.drop off).take (k+2))+1000000000 ^ (k+2)*c∧val ((A.drop off).take (k+3))=val ((A.drop off).take (k+2))+1000000000 ^ (k+2)*x∧val Dl<1000000000 ^ (k+2)∧x<c):=⟨u,m,a5,by omega⟩; have cb:(c:Int)≤1000000000:=by omega
 clear u m H a6 J a8 a9 E hx a5
 go_wp2_with fail
 have I:=addIntoAt_any R off cap (some ⟨D,0,none⟩) dcap L Dl w2 j.o.1 j.o.2.2.1 (by have:=j.o.2.1; omega) (by have:=j.o.2.1; omega) hDok (fun i hi=>⟨D,0,rfl,⟨e4.o,hDR⟩,by rw [Nat.zero_add]; exact b8.o.2.cell i hi⟩); rw [hl] at I; refine I.mono ?_; clear I; rintro e w3 ⟨c3,V,rfl,d3,c9,K,d6,Z,h0,O,d2⟩; have Y:=step_wrong (1000000000 ^ (k+2)) _ x (val Dl) g c _ _ c3 HV.o.1 HV.o.2.2.2 (by rw [← HV.o.2.1]; exact HW.o.1) (val_take_lt _ (okL_drop L j.o.2.2.1 off) _) (by have:=HV.o.2.2.1; omega) O (val_take_lt _ (okL_drop V K off) _); have T:Hid (1≤g∧g - 1<1000000000∧val ((A.drop off).take (k+3))=(g - 1)*val Dl+val ((V.drop off).take (k+2))∧val ((V.drop off).take (k+2))<val Dl):=⟨Y.1,by omega,HV.o.2.1.trans Y.2.1,Y.2.2⟩; have s:Hid (RowT w3 R V∧V.length=A.length∧okL V∧V.take off=A.take off):=⟨d3,by rw [c9]; exact j.o.2.1,K,Z.trans j.o.2.2.2⟩; have e3:Hid (Only R w w3):=b6.o.trans d2; obtain ⟨G,hG⟩:∃ G:Int,(g:Int)=G:=⟨_,rfl⟩; have g1:1≤G:=by have:=T.o.1; omega
 have g2:G≤1000000000:=by omega
 have d9:=Hd hG; rw [hG]; clear Y d3 c9 K d6 Z O d2 hG
 go_wp2
 go_ret
 exact ⟨g - 1,V,ret_int (by have:=d9.o; have:=T.o.1; omega),s.o.1,s.o.2.1,s.o.2.2.1,s.o.2.2.2,T.o.2.1,T.o.2.2.1,T.o.2.2.2,e3.o⟩
theorem scale_half (t s:Nat) (ht:1≤t) (ht2:t<1000000000) (h1:s*(t+1)≤1000000000) (h2:1000000000<(s+1)*(t+1)):500000000≤s*t:=by
 by_cases a:t=1
 ·subst a; omega
 by_cases b:s=1
 ·subst b; omega
 by_cases c:s=0
 ·subst c; omega
 obtain ⟨u,rfl⟩:∃ u,s=u+2:=⟨s - 2,by omega⟩; obtain ⟨v,rfl⟩:∃ v,t=v+2:=⟨t - 2,by omega⟩; have e1:(u+2+1)*(v+2+1)=u*v+3*u+3*v+9:=by grind
 have h:(u+2)*(v+2)=u*v+2*u+2*v+4:=by grind
 rw [e1] at h2; rw [h]; omega
theorem scale_fit (s t P vb:Nat) (hs:1≤s) (h1:s*(t+1)≤1000000000) (hb:vb<P*(t+1)):s*vb<P*1000000000:=by
 have e1:s*(vb+1)≤s*(P*(t+1)):=Nat.mul_le_mul_left s hb; have h:s*(P*(t+1))=P*(s*(t+1)):=by grind
 have j:P*(s*(t+1))≤P*1000000000:=Nat.mul_le_mul_left P h1; rw [Nat.mul_add,Nat.mul_one] at e1; omega
theorem scale_top (s t P vb dt W:Nat) (hb:vb=W+P*t) (hd:s*vb<P*(dt+1)):s*t≤dt:=by
 apply Nat.le_of_lt_succ; apply Nat.lt_of_not_le; intro h; have e1:P*(dt+1)≤P*(s*t):=Nat.mul_le_mul_left P h; have j:s*(W+P*t)=s*W+P*(s*t):=by grind
 rw [hb,j] at hd; omega
theorem first_top (P Q V s va vb:Nat) (h:P*V≤s*va) (hva:va<P*Q) (hvb:Q≤vb) (hs:1≤s):V<s*vb:=by
 have e1:s*(va+1)≤s*(P*Q):=Nat.mul_le_mul_left s hva; have m:s*(P*Q)=P*(s*Q):=by grind
 have j:s*Q≤s*vb:=Nat.mul_le_mul_left s hvb; apply Nat.lt_of_lt_of_le ?_ j; apply Nat.lt_of_not_le; intro h3; have u:P*(s*Q)≤P*V:=Nat.mul_le_mul_left P h3; rw [Nat.mul_add,Nat.mul_one] at e1; omega
theorem window_lt (x T Dv:Nat) (hx:x<1000000000) (hT:T<Dv):x+1000000000*T<Dv*1000000000:=by
 have:1000000000*(T+1)≤1000000000*Dv:=Nat.mul_le_mul_left _ hT; omega
theorem round_eq (S Vq P Dv Lo X q W:Nat) (h:S=Vq*(P*1000000000)*Dv+(Lo+P*X)) (hX:X=q*Dv+W):S=(Vq*1000000000+q)*P*Dv+(Lo+P*W):=by
 rw [h,hX]
 grind
theorem last_eq (s va vb Q W U r:Nat) (hs:1≤s) (h:s*va=Q*(s*vb)+W) (hW:W<s*vb) (hU:W=U*s+r) (hr:r<s):va=Q*vb+U∧U<vb:=by
 have e1:Q*(s*vb)=s*(Q*vb):=by grind
 rw [e1,hU] at h; have E:Q*vb≤va:=by
  apply Nat.le_of_not_lt; intro j; have:s*(va+1)≤s*(Q*vb):=Nat.mul_le_mul_left s j; rw [Nat.mul_add,Nat.mul_one] at this; omega
 obtain ⟨y,rfl⟩:∃ y,va=Q*vb+y:=⟨va - Q*vb,by omega⟩; have D:s*y=U*s+r:=by
  rw [Nat.mul_add] at h; omega
 have u:U=y:=by
  have H:y*s=U*s+r:=by rw [Nat.mul_comm]; exact D
  apply Nat.le_antisymm
  ·apply Nat.le_of_not_lt; intro j; have:(y+1)*s≤U*s:=Nat.mul_le_mul_right s j; rw [Nat.add_mul,Nat.one_mul] at this; omega
  apply Nat.le_of_not_lt; intro j; have:(U+1)*s≤y*s:=Nat.mul_le_mul_right s j; rw [Nat.add_mul,Nat.one_mul] at this; omega
 subst u; refine ⟨rfl,?_⟩; apply Nat.lt_of_not_le; intro m; have:s*vb≤s*U:=Nat.mul_le_mul_left s m; omega
theorem val_cut (L:List Nat) (i n:Nat) (h:i≤L.length):val (L.take (i+n))=val (L.take i)+1000000000 ^ i*val ((L.drop i).take n):=by
 rw [List.take_add,val_append,List.length_take,Nat.min_eq_left h]
theorem val_cons_seg (L:List Nat) (i n:Nat) (h:i<L.length):val ((L.drop i).take (n+1))=L.getD i 0+1000000000*val ((L.drop (i+1)).take n):=by
 rw [List.drop_eq_getElem_cons h,List.take_succ_cons,val,List.getD_eq_getElem?_getD,List.getElem?_eq_getElem h]; rfl
theorem RowT.other {w:World} {R:Nat} {l:List Nat} (h:RowT w R l) (p:Addr) (u:Value) (hp:p.block≠R):RowT (w.setCell p u) R l:=by
 obtain ⟨t,h⟩:=h; refine ⟨t,Eq.trans ?_ h⟩
 show (w.heap.modify p.block _)[R]? = _
 rw [Array.getElem?_modify,if_neg hp]
theorem RowT.kept {w w':World} {R:Nat} {l:List Nat} (h:RowT w R l) (hb:Up w w'):RowT w' R l:=by
 have j:=h.lt; obtain ⟨t,h⟩:=h; exact ⟨t,(hb.block R j).trans h⟩
theorem RowT.keptB {w w':World} {R N:Nat} {l:List Nat} (h:RowT w R l) (hb:Below N w w') (hR:R<N):RowT w' R l:=by
 obtain ⟨t,h⟩:=h; exact ⟨t,(hb.block R hR).trans h⟩
structure DivAt (a b:List Nat) (s k m:Nat) (Dl L Q:List Nat) (j:Nat):Prop where
 len:L.length=k+2+m+1
 ok:okL L
 qlen:Q.length=m+1
 qok:okL Q
 le:j≤m+1
 eq:s*val a=vfrom Q j*1000000000 ^ j*val Dl+val (L.take (j+(k+2)))
 top:val ((L.drop j).take (k+2))<val Dl
theorem DivAt.step {a b:List Nat} {s k m:Nat} {Dl L Q:List Nat} {i:Nat} (h:DivAt a b s k m Dl L Q (i+1)) {q:Nat} {L':List Nat} (hq:q<1000000000) (hL:L'.length=L.length) (hok:okL L') (htk:L'.take i=L.take i)
 (hX:val ((L.drop i).take (k+3))=q*val Dl+val ((L'.drop i).take (k+2))) (ht:val ((L'.drop i).take (k+2))<val Dl):DivAt a b s k m Dl L' (Q.set i q) i:=by
 have j:=h.le; refine ⟨hL.trans h.len,hok,by simp [h.qlen],okL_set Q h.qok i q hq,by omega,?_,ht⟩; have e:=h.eq; rw [show i+1+(k+2)=i+(k+3) by omega,val_cut L i (k+3) (by have:=h.len; omega),Nat.pow_succ] at e; rw [vfrom_set Q i q (by have:=h.qlen; omega),val_cut L' i (k+2) (by have:=h.len; omega),htk]; exact round_eq _ _ _ _ _ _ q _ e hX
theorem DivAt.window {a b:List Nat} {s k m:Nat} {Dl L Q:List Nat} {i:Nat} (h:DivAt a b s k m Dl L Q (i+1)):val ((L.drop i).take (k+3))<val Dl*1000000000:=by
 have j:=h.le; have hl:=h.len; rw [val_cons_seg L i (k+2) (by omega)]; exact window_lt _ _ _ (okL_getD L h.ok i (by omega)) h.top
theorem getLast_getD (b:List Nat) (k:Nat) (hl:b.length=k+1) (ht:isTrim b):1≤b.getD k 0:=by
 have hne:b≠[]:=by intro h; rw [h] at hl; simp at hl
 have h:=ht hne; rw [List.getLast_eq_getElem] at h; have e:b.getD k 0=b[b.length - 1]'(by omega):=by
  rw [List.getD_eq_getElem?_getD,List.getElem?_eq_getElem (by omega)]; simp [hl]
 omega
theorem divLong_any (B:Nat) (va vb:Value) (a b:List Nat) (k m:Nat) (w:World) (ha:IsL B w va a) (hb:IsL B w vb b) (hlb:b.length=k+2) (hla:a.length=k+2+m) (hmx:k+2+m≤100000) (htb:isTrim b) :
 Calls Tryz.prog 103 #[va,vb] w fun e w'=>∃ v u Q U,e=.returned (.tuple #[v,u])∧IsL w.heap.size w' v Q∧IsL w.heap.size w' u U∧isTrim Q∧isTrim U∧Q.length≤m+1∧U.length≤k+2∧val a=val Q*val b+val U∧val U<val b∧Up w w':=by
 obtain ⟨i0,b3,g1,g2,g3⟩:=info_parts Tryz.info_u32; obtain ⟨pa,ca,rfl,_⟩:=id ha; obtain ⟨pb,cb,rfl,_⟩:=id hb; obtain ⟨_,_,_,d2,i9⟩:=ha.cells; obtain ⟨_,_,_,a8,e6⟩:=hb.cells; have HA:=Hd i9; have HB:=Hd e6; obtain ⟨bb,ob,rfl,p8,e8⟩:=e6 (k+1) (by omega); have j5:=getLast_getD b (k+1) hlb htb; have j6:=okL_getD b a8 (k+1) (by omega); obtain ⟨t,ht⟩:=exW (b.getD (k+1) 0); obtain ⟨s,hs⟩:=exW (1000000000 / (t+1)); have e9:s*(t+1)≤1000000000:=by rw [← hs]; exact Nat.div_mul_le_self _ _
 have j3:1000000000<(s+1)*(t+1):=by
  have:=Nat.lt_div_mul_add (a:=1000000000) (b:=t+1) (by omega); rw [hs] at this; rw [Nat.add_mul,Nat.one_mul]; exact this
 rw [ht] at j5 j6 e8; have j4:1≤s:=by
  apply Nat.pos_of_ne_zero; rintro rfl; omega
 have n2:s≤500000000:=by
  have:s*2≤s*(t+1):=Nat.mul_le_mul_left s (by omega); omega
 have J:Hid (1≤s∧s*(t+1)≤1000000000∧500000000≤s*t∧b.getD (k+1) 0=t∧s≤500000000):=⟨j4,e9,scale_half t s j5 j6 e9 j3,ht,n2⟩; rw [hlb,hla]; obtain ⟨T,hT⟩:∃ T:Int,(t:Int)=T:=⟨_,rfl⟩; have n3:1000000000 / (T+1)=(s:Int):=by rw [← hs,← hT]; rfl
 rw [hT] at e8; have t1:1≤T:=by omega
 have t2:T<1000000000:=by omega
 clear i9 e6 ha hb e9 j3 hs ht hT
 go_enter Tryz.func103,Tryz.ntmps103
 go_wp2_with (at_make; refine wpList_make_full _ rfl _ _ 51 rfl w.heap.size 87 i0 (.int .u32 0) 1 Tryz.underlying51 b3 g1 g2 .i64 .i64 _ _ (k+2+m+1) rfl rfl (by first|rfl|omega) (by first|rfl|omega) (by first|omega|(rw [g3]; omega)) (by unfold maxLen; omega) leR ?_)
 intro w1 y O
 first|rw [made_zero] at y|rw [made_zero'] at y
 have d9:RowT w1 w.heap.size (List.replicate (k+2+m+1) 0):=(row_of_full y).tail; have i1:Up w w1:=(Below.refl _ _).grown O leR (fun k h=>by cases h); have l6:=Hd d9; have g7:=Hd i1; have n6:Hid (w.heap.size<w1.heap.size):=d9.lt; clear y O d9 i1 e8 t1 t2 n3
 go_wp2_with fail
 have I:=addScaled_any w.heap.size 0 (k+2+m+1) s _ pa ca (List.replicate (k+2+m+1) 0) a w1 l6.o (fun x hx=>by rw [List.eq_of_mem_replicate hx]; omega) (by simp; omega) (by simp; omega) d2 rfl (by omega) (by have:=J.o.2.2.2.2; omega) (fun i hi=>by
  obtain ⟨c,off,e,hc,e7⟩:=HA.o i hi; exact ⟨c,off,e,hc,by rw [g7.o.cell (p:=⟨c,off+i,none⟩) hc]; exact e7⟩)
 rw [hla] at I; refine I.mono ?_; clear I; rintro e Z ⟨c,L,rfl,a7,a6,d3,j0,hc,f7,i7⟩; have a9:=a7.cell (k+2+m) (by rw [a6]; simp); have j2:=a7.frozen (k+2+m); have h0:L.getD (k+2+m) 0=0:=by
  rw [getD_of_drop L _ (0+(k+2+m)) (k+2+m) j0 (by omega)]; simp [List.getD_eq_getElem?_getD]
 have g0:=val_set L (k+2+m) c (by rw [a6]; simp); rw [h0,Nat.mul_zero,Nat.add_zero] at g0; rw [val_replicate,Nat.zero_add,Nat.zero_add,Nat.pow_zero,Nat.one_mul] at f7; have Y:Hid (val (L.set (k+2+m) c)=s*val a∧okL (L.set (k+2+m) c)∧(L.set (k+2+m) c).length=k+2+m+1):=⟨g0.trans f7,okL_set L d3 _ _ (by have:=J.o.2.2.2.2; omega),by simp [a6]⟩; have d7:Hid (RowT (Z.setCell ⟨w.heap.size,k+2+m,none⟩ (.int .u32 (c:Nat))) w.heap.size (L.set (k+2+m) c)):=a7.set _ _ (by rw [a6]; simp); have g8:Hid (Up w (Z.setCell ⟨w.heap.size,k+2+m,none⟩ (.int .u32 (c:Nat)))):=(g7.o.trans i7).setCell leR _; have p9:c<1000000000:=by have:=J.o.2.2.2.2; omega
 have h7:Hid (w.heap.size<Z.heap.size):=a7.lt; clear a7 a6 d3 j0 hc f7 i7 h0 g0; obtain ⟨W3,e0⟩:=exW (Z.setCell ⟨w.heap.size,k+2+m,none⟩ (.int .u32 (c:Nat))); have h9:=Hd e0; generalize L.set (k+2+m) c=N at Y d7; rw [e0] at d7 g8; clear e0; have j4:W3.heap.size=Z.heap.size:=by rw [← h9.o]; simp
 have E:Hid (w.heap.size<Z.heap.size):=h7.o
 go_wp2_with (at_make; refine wpList_make_full _ rfl _ _ 51 rfl Z.heap.size 87 i0 (.int .u32 0) 1 Tryz.underlying51 b3 g1 g2 .i64 .i64 _ _ (k+2) rfl rfl (by first|rfl|omega) (by first|rfl|omega) (by first|omega|(rw [g3]; omega)) (by unfold maxLen; omega) (by simp) ?_)
 intro w4 y O; rw [h9.o] at O
 first|rw [made_zero] at y|rw [made_zero'] at y
 have i2:RowT w4 Z.heap.size (List.replicate (k+2) 0):=(row_of_full y).tail; have b6:Below Z.heap.size W3 w4:=(Below.refl _ _).grown O (by omega) (fun k h=>by cases h); have l2:=Hd i2; have p1:=Hd b6; have c9:Hid (Up w w4):=g8.o.trans (b6.mono (by have:=E.o; omega)); have l7:Hid (RowT w4 w.heap.size N):=d7.o.keptB b6 E.o; clear y O i2 b6 a9 j2
 go_wp2_with fail
 have I:=addScaled_any Z.heap.size 0 (k+2) s _ (some ⟨bb,ob,none⟩) cb (List.replicate (k+2) 0) b w4 l2.o (fun x hx=>by rw [List.eq_of_mem_replicate hx]; omega) (by simp; omega) (by simp; omega) a8 rfl (by omega) (by have:=J.o.2.2.2.2; omega) (fun i hi=>by
  obtain ⟨c,off,e,hc,e7⟩:=HB.o i hi; exact ⟨c,off,e,by have:=E.o; omega,by rw [c9.o.cell (p:=⟨c,off+i,none⟩) hc]; exact e7⟩)
 rw [hlb] at I; refine I.mono ?_; clear I; rintro e K ⟨c5,V,rfl,i3,d0,a5,j1,m8,f9,e3⟩; rw [val_replicate,Nat.zero_add,Nat.zero_add,Nat.pow_zero,Nat.one_mul] at f9; have e5:val b=val (b.take (k+1))+1000000000 ^ (k+1)*t:=by
  have h:=val_take_succ b (k+1); rw [List.take_of_length_le (by omega),J.o.2.2.2.1] at h; exact h
 have i8:val b<1000000000 ^ (k+1)*(t+1):=by
  rw [e5,Nat.mul_add,Nat.mul_one]; have:=val_take_lt b a8 (k+1); omega
 have d1:V.length=k+2:=by rw [d0]; simp
 have b8:val V=s*val b:=by
  have h1:s*val b<1000000000 ^ (k+2):=by rw [Nat.pow_succ]; exact scale_fit s t _ _ J.o.1 J.o.2.1 i8
  rw [← f9] at h1 ⊢; have:c5=0:=by
   apply Nat.eq_zero_of_not_pos; intro hp; have:1000000000 ^ (k+2)*1≤1000000000 ^ (k+2)*c5:=Nat.mul_le_mul_left _ hp; omega
  rw [this,Nat.mul_zero,Nat.add_zero]
 have l4:Hid (500000000≤V.getD (k+1) 0):=by
  unfold Hid
  have h1:val V<1000000000 ^ (k+1)*(V.getD (k+1) 0+1):=by
   have h:=val_take_succ V (k+1); rw [List.take_of_length_le (by omega)] at h; rw [h,Nat.mul_add,Nat.mul_one]; have:=val_take_lt V a5 (k+1); omega
  rw [b8] at h1; have:=scale_top s t _ _ _ _ e5 h1; have:=J.o.2.2.1; omega
 have b4:Hid (val V=s*val b∧okL V∧V.length=k+2):=⟨b8,a5,d1⟩; have l8:Hid (RowT K w.heap.size N):=l7.o.keptB e3 E.o; have g9:=Hd i3; have l0:Hid (Up w K):=c9.o.trans (e3.mono (by have:=E.o; omega)); have m5:Hid (DivAt a b s k m V N (List.replicate (m+1) 0) (m+1)):=by
  refine ⟨Y.o.2.2,Y.o.2.1,by simp,fun x hx=>by rw [List.eq_of_mem_replicate hx]; omega,leR,?_,?_⟩
  ·have e1:vfrom (List.replicate (m+1) 0) (m+1)=0:=by unfold vfrom; simp [val]
   rw [e1,Nat.zero_mul,Nat.zero_mul,Nat.zero_add,List.take_of_length_le (by have:=Y.o.2.2; omega)]; exact Y.o.1.symm
  rw [b8]; refine first_top (1000000000 ^ (m+1)) (1000000000 ^ (k+1)) _ s (val a) (val b) ?_ ?_ ?_ J.o.1
  ·have h:=val_cut N (m+1) (k+2) (by have:=Y.o.2.2; omega); rw [List.take_of_length_le (by have:=Y.o.2.2; omega),Y.o.1] at h; omega
  ·have h:=val_lt a d2; rw [hla] at h; rw [← Nat.pow_add,show m+1+(k+1)=k+2+m by omega]; exact h
  have h:=val_ge b htb (by intro h; rw [h] at hlb; simp at hlb); rw [hlb,show k+2 - 1=k+1 by omega] at h; exact h
 clear d0 a5 j1 m8 f9 e3 e5 i8 d1 b8 i3; have a3:Hid (Z.heap.size<K.heap.size):=g9.o.lt
 go_wp2_with (at_make; refine wpList_make_full _ rfl _ _ 51 rfl K.heap.size 87 i0 (.int .u32 0) 1 Tryz.underlying51 b3 g1 g2 .i64 .i64 _ _ (m+1) rfl rfl (by first|rfl|omega) (by first|rfl|omega) (by first|omega|(rw [g3]; omega)) (by unfold maxLen; omega) leR ?_)
 intro w6 y O
 first|rw [made_zero] at y|rw [made_zero'] at y
 have d8:RowT w6 K.heap.size (List.replicate (m+1) 0):=(row_of_full y).tail; have b7:Up K w6:=(Below.refl _ _).grown O leR (fun k h=>by cases h); have b5:Hid (RowT w6 K.heap.size (List.replicate (m+1) 0)∧RowT w6 w.heap.size N∧RowT w6 Z.heap.size V∧Up w w6):=⟨d8,l8.o.kept b7,g9.o.kept b7,l0.o.trans (b7.mono (by have:=a3.o; have:=E.o; omega))⟩; have n7:Hid (K.heap.size<w6.heap.size):=d8.lt; clear y O d8 b7
 go_wp2
 go_loopw [10] (fun iv wr=>∃ (j:Nat) (L Q:List Nat),DivAt a b s k m V L Q j∧iv=.int .i64 ((j:Int) - 1)∧RowT wr w.heap.size L∧RowT wr Z.heap.size V∧RowT wr K.heap.size Q∧Up w wr) (fun iv _=>(intOf iv+1).toNat)
 case atStart=>exact ⟨m+1,N,_,m5.o,val_int (by omega),b5.o.2.1,b5.o.2.2.1,b5.o.1,b5.o.2.2.2⟩
 case round=>
  obtain ⟨j,L,Q,e2,rfl,hR,hD,hQ,hB⟩:=hrel; have H:=Hd e2; have D:Hid (RowT wr w.heap.size L∧RowT wr Z.heap.size V∧RowT wr K.heap.size Q∧Up w wr):=⟨hR,hD,hQ,hB⟩; have m9:=e2.le; clear hR hD hQ hB e2
  cases j with
  | zero=>
    clear m9; have hL:=H.o.len; have f5:(L.take (k+2)).length=k+2:=by rw [List.length_take]; omega
    have HI:Hid (IsL w.heap.size wr (.slice (some ⟨w.heap.size,0,none⟩) (k+2) (k+2+m+1)) (L.take (k+2))):=by
     refine ⟨_,k+2+m+1,by rw [f5],by omega,by unfold maxLen; omega,okL_take' L H.o.ok _,.inr ⟨w.heap.size,0,rfl,leR,D.o.1.lt,fun i hi=>?_⟩⟩; rw [Nat.zero_add,D.o.1.cell i (by omega)]; rw [List.getD_eq_getElem?_getD,List.getD_eq_getElem?_getD,List.getElem?_take_of_lt (by omega)]
    have h6:=Hd f5; clear hL f5
    go_wp2_with fail
    refine (divByLimb_any w.heap.size _ (L.take (k+2)) s _ HI.o (by have:=h6.o; omega) J.o.1 (by have:=J.o.2.2.2.2; omega)).mono ?_; rintro e w7 ⟨u,U,r,rfl,hU,j8,n0,j9,hr,e4⟩; have HU:=Hd hU; have h8:Hid (IsL w.heap.size w7 (.slice (some ⟨K.heap.size,0,none⟩) (m+1) (m+1)) Q):=by
     have h:=(D.o.2.2.1.kept e4).isL (B:=w.heap.size) (cap:=m+1) (by have:=a3.o; have:=E.o; omega) H.o.qok (by have:=H.o.qlen; omega) (by unfold maxLen; omega); rw [H.o.qlen] at h; exact h
    have HE:Hid (val a=val Q*val b+val U∧val U<val b∧isTrim U∧U.length≤k+2):=by
     have e:=H.o.eq; have tp:=H.o.top; unfold vfrom at e; rw [List.drop_zero,Nat.pow_zero,Nat.mul_one,Nat.zero_add,b4.o.1] at e; rw [List.drop_zero,b4.o.1] at tp; have h:=last_eq s (val a) (val b) (val Q) _ (val U) r J.o.1 e tp j9 hr; exact ⟨h.1,h.2,j8,by have:=h6.o; omega⟩
    have l1:Hid (Up w w7):=D.o.2.2.2.trans (e4.mono D.o.2.2.2.size); have l9:Hid (w.heap.size≤wr.heap.size):=D.o.2.2.2.size; obtain ⟨pu,cu,hu,_⟩:=hU; subst hu; clear j8 n0 j9 hr e4
    go_wp2_with fail
    refine (trimLimbs_any w.heap.size _ Q _ h8.o).mono ?_; rintro e w8 ⟨v,rfl,hcut,rfl⟩; have HW:Hid (IsL w.heap.size w8 v (trimL Q)):=hcut _ _ h8.o; have HT:Hid (val (trimL Q)=val Q∧(trimL Q).length≤m+1):=⟨val_trimL Q,by have:=trimL_len Q; have:=H.o.qlen; omega⟩; obtain ⟨pv,cv,hv,_⟩:=HW.o; subst hv; clear hcut
    go_wp2
    go_ret2
    exact ⟨_,_,trimL Q,U,rfl,HW.o,HU.o.mono l9.o,trimL_trim _,HE.o.2.2.1,HT.o.2,HE.o.2.2.2,by rw [HT.o.1]; exact HE.o.1,HE.o.2.1,l1.o⟩
  | succ i=>
    go_wp2_with fail
    rw [show i+(k+2)+1 - i=k+3 by omega]; refine (divStep_any w.heap.size i (k+2+m+1 - i) Z.heap.size (k+2) k L V wr D.o.1 H.o.ok b4.o.2.2 (by have:=H.o.len; omega) (by have:=H.o.len; omega) D.o.2.1 (by have:=E.o; omega) b4.o.2.1 l4.o H.o.window (by omega)).mono ?_; rintro e w7 ⟨q,L7,rfl,i5,i4,d4,d5,n1,i6,j7,b9⟩; have g6:Hid (DivAt a b s k m V L7 (Q.set i q) i):=H.o.step n1 i4 d4 d5 i6 j7; have c7:RowT w7 K.heap.size Q:=b9.rowT (by have:=a3.o; have:=E.o; omega) D.o.2.2.1; have a9:=c7.cell i (by have:=H.o.qlen; omega); have j2:=c7.frozen i; have M:Hid (RowT (w7.setCell ⟨K.heap.size,i,none⟩ (.int .u32 (q:Nat))) w.heap.size L7∧RowT (w7.setCell ⟨K.heap.size,i,none⟩ (.int .u32 (q:Nat))) Z.heap.size V∧RowT (w7.setCell ⟨K.heap.size,i,none⟩ (.int .u32 (q:Nat))) K.heap.size (Q.set i q)∧Up w (w7.setCell ⟨K.heap.size,i,none⟩ (.int .u32 (q:Nat)))):=by
     have l5:=a3.o; have l3:=E.o; refine ⟨i5.other _ _ (by show K.heap.size≠w.heap.size; omega),(b9.rowT (by omega) D.o.2.1).other _ _ (by show K.heap.size≠Z.heap.size; omega),c7.set _ _ (by have:=H.o.qlen; omega),(D.o.2.2.2.trans b9.below).setCell (by show w.heap.size≤K.heap.size; omega) _⟩
    clear i5 i4 d4 d5 i6 j7 b9 c7
    go_wp2
    go_roundw
    case rel=>exact ⟨i,L7,Q.set i q,g6.o,by go_num,M.o.1,M.o.2.1,M.o.2.2.1,M.o.2.2.2⟩
    case measure=>simp [intOf]
def DivL (B:Nat) (w:World) (v u:Value) (a b Q U:List Nat):Prop:=
 (IsL B w v Q∧IsL B w u U)∧(isTrim Q∧isTrim U)∧(Q.length≤a.length∧U.length≤b.length+3)∧val a=val Q*val b+val U∧val U<val b
theorem ord_lt' (x y:Nat) (h:ord x y<0):x<y:=by
 unfold ord at h
 split at h
 ·assumption
 split at h<;>omega
theorem cmpL_lt_val (a b:List Nat) (ha:okL a) (hb:okL b) (ta:isTrim a) (tb:isTrim b) (hcm:cmpL a b<0):val a<val b:=by
 rw [cmpL_ord a b ha hb ta tb] at hcm; exact ord_lt' _ _ hcm
theorem cmpL_len (a b:List Nat) (hcm:0≤cmpL a b):b.length≤a.length:=by
 unfold cmpL at hcm
 by_cases h3:a.length<b.length
 ·simp [h3] at hcm<;>omega
 omega
theorem cmpL_len_lt (a b:List Nat) (hcm:cmpL a b<0):a.length≤b.length:=by
 unfold cmpL at hcm
 by_cases h3:b.length<a.length
 ·by_cases h4:a.length<b.length
  ·omega
  simp [h3,h4] at hcm<;>omega
 omega
theorem divLimbs_any (B:Nat) (va vb:Value) (a b:List Nat) (w:World) (hBw:B≤w.heap.size) (ha:IsL B w va a) (hb:IsL B w vb b) (hla:a.length≤100000) (hta:isTrim a) (htb:isTrim b) (hne:b≠[]) :
 Calls Tryz.prog 84 #[va,vb] w fun e w'=>∃ v u Q U,e=.returned (.tuple #[v,u])∧DivL B w' v u a b Q U∧Up w w':=by
 have HA:=Hd ha; have HB:=Hd hb; have I:Hid (isTrim a∧isTrim b∧b≠[]∧B≤w.heap.size):=⟨hta,htb,hne,hBw⟩; obtain ⟨pa,ca,rfl,f9,b6,K,_⟩:=ha; obtain ⟨pb,cb,rfl,g0,b7,M,_⟩:=hb; have Z:Hid (okL a∧okL b):=⟨K,M⟩; obtain ⟨c,hc⟩:=exW (cmpL a b); have HC:=Hd hc; have J : -1≤c∧c≤1:=by rw [← hc]; exact cmpL_bd a b
 obtain ⟨g8,g9⟩:=J; clear hc hta htb hne hBw K M b6 b7
 by_cases b9:c<0
 ·have Y:Hid (DivL B w (.slice none 0 0) (.slice pa a.length ca) a b [] a):=by
   have hv:=cmpL_lt_val a b Z.o.1 Z.o.2 I.o.1 I.o.2.1 (by rw [HC.o]; exact b9); have hl:=cmpL_len_lt a b (by rw [HC.o]; exact b9); exact ⟨⟨⟨none,0,rfl,leR,(by unfold maxLen; omega),(fun x hx=>by cases hx),.inl rfl⟩,HA.o⟩,⟨fun h=>absurd rfl h,I.o.1⟩,⟨Nat.zero_le _,by omega⟩,by simp [val],hv⟩
  go_enter Tryz.func84,Tryz.ntmps84
  go_wp2_with fail
  refine (compareLimbs_any B _ _ a b _ HA.o HB.o).mono ?_; rintro e w1 ⟨rfl,s⟩; rw [HC.o]; have j:=Hd s; clear s
  go_wp2
  go_ret2
  exact ⟨_,_,[],a,rfl,⟨⟨Y.o.1.1.below j.o,Y.o.1.2.below j.o⟩,Y.o.2⟩,j.o⟩
 have d9:Hid (b.length≤a.length):=cmpL_len a b (by rw [HC.o]; omega)
 by_cases h1:b.length=1
 ·obtain ⟨y,rfl⟩:∃ y,b=[y]:=by
   match b,h1 with
   | [y],_=>exact ⟨y,rfl⟩
  have d3:=getLast_getD [y] 0 rfl I.o.2.1; have h6:=Z.o.2 y (by simp); have e8:0<y:=by
   simp at d3; omega
  obtain ⟨_,_,_,_,J⟩:=HB.o.cells; obtain ⟨bb,ob,rfl,e2,b8⟩:=J 0 (by simp); have O:w.cell? ⟨bb,ob+0,none⟩=some (.int .u32 (y:Nat)):=b8; have d8:Hid (∀ W,Up w W→W.cell? ⟨bb,ob,none⟩=some (.int .u32 (y:Nat))):=fun W hW=>(hW.cell (p:=⟨bb,ob,none⟩) e2).trans O; clear b8 O J d3
  go_enter Tryz.func84,Tryz.ntmps84
  go_wp2_with fail
  refine (compareLimbs_any B _ _ a [y] _ HA.o HB.o).mono ?_; rintro e w1 ⟨rfl,s⟩; rw [HC.o]; have j:=Hd s; have a5:=d8.o _ s; clear s
  go_wp2_with fail
  refine (divByLimb_any B _ a y _ (HA.o.below j.o) hla e8 (by omega)).mono ?_; rintro e w2 ⟨v,q,r,rfl,hL,d0,T,D,hr,H⟩; have HL:Hid (IsL B w2 v q):=hL.mono (by have:=j.o.size; have:=I.o.2.2.2; omega); have HV:Hid (isTrim q∧q.length≤a.length∧val a=val q*y+r∧r<y):=⟨d0,T,D,hr⟩; have E:Hid (Up w w2):=j.o.trans (H.mono j.o.size); obtain ⟨pv,cv,hv,_⟩:=hL; subst hv; clear d0 T D H a5
  go_wp2_with fail
  refine (limbsOf_trim r _ (by omega)).mono ?_; rintro e w3 ⟨u,t,rfl,hu,d1,a6,e6,a3⟩; have Y:Hid (DivL B w3 (.slice pv q.length cv) u a [y] q t):=by
   refine ⟨⟨HL.o.below a3,hu.mono (by have:=E.o.size; have:=I.o.2.2.2; omega)⟩,⟨HV.o.1,d1⟩,⟨HV.o.2.1,by omega⟩,?_,?_⟩
   ·rw [a6]; simp only [val]; exact HV.o.2.2.1
   rw [a6]; simp only [val]; exact HV.o.2.2.2
  have d7:Hid (Up w w3):=E.o.trans (a3.mono E.o.size); obtain ⟨pu,cu,e7,_⟩:=hu; subst e7; clear d1 a6 e6 a3
  go_wp2
  go_ret2
  exact ⟨_,_,q,t,rfl,Y.o,d7.o⟩
 have hp:b.length≠0:=fun h=>I.o.2.2.1 (List.eq_nil_of_length_eq_zero h); obtain ⟨k,hk⟩:∃ k,b.length=k+2:=⟨b.length - 2,by omega⟩; obtain ⟨m,hm⟩:∃ m,a.length=k+2+m:=⟨a.length - (k+2),by have:=d9.o; omega⟩; have HK:Hid (b.length=k+2∧a.length=k+2+m∧k+2+m≤100000):=⟨hk,hm,by omega⟩; have z1:((b.length:Int)==1)=false:=by rw [beq_eq_false_iff_ne]; omega
 clear hk hm
 go_enter Tryz.func84,Tryz.ntmps84
 go_wp2_with fail
 refine (compareLimbs_any B _ _ a b _ HA.o HB.o).mono ?_; rintro e w1 ⟨rfl,s⟩; rw [HC.o]; have j:=Hd s; clear s
 go_wp2_with fail
 refine (divLong_any B (.slice pa a.length ca) (.slice pb b.length cb) a b k m w1 (HA.o.below j.o) (HB.o.below j.o) HK.o.1 HK.o.2.1 HK.o.2.2 I.o.2.1).mono ?_; rintro e w2 ⟨v,u,Q,U,rfl,hv,hu,c7,c9,e4,e5,D,V,H⟩; have Y:Hid (DivL B w2 v u a b Q U):=by
  have b5:B≤w1.heap.size:=by have:=j.o.size; have:=I.o.2.2.2; omega
  exact ⟨⟨hv.mono b5,hu.mono b5⟩,⟨c7,c9⟩,⟨by have:=HK.o; omega,by have:=HK.o; omega⟩,D,V⟩
 have E:Hid (Up w w2):=j.o.trans (H.mono j.o.size); clear hv hu c7 c9 e4 e5 D V H
 go_wp2
 go_ret2
 exact ⟨_,_,Q,U,rfl,Y.o,E.o⟩
end Go.Proofs.YtknfmkeipeikkaaGreatDoor
