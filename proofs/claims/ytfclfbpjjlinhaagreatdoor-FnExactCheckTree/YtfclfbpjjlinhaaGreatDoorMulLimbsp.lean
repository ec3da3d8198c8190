import Derived.Test.YtfclfbpjjlinhaaGreatDoorM4p
import Derived.Test.YtfclfbpjjlinhaaGreatDoorOfImplp
set_option maxRecDepth 100000
set_option maxHeartbeats 2000000
namespace Go.Proofs.YtfclfbpjjlinhaaGreatDoor
open Go.ChangeShapes Go.WideShapes Go.ChangeAt Go.RowKit
theorem getD_of_drop (L A:List Nat) (k j:Nat) (h:L.drop k=A.drop k) (hj:k≤j):L.getD j 0=A.getD j 0:=by
 have e:∀ M:List Nat,M.getD j 0=(M.drop k).getD (j - k) 0:=fun M=>by rw [List.getD_eq_getElem?_getD,List.getD_eq_getElem?_getD,List.getElem?_drop,Nat.add_sub_cancel' hj]
 rw [e L,e A,h]
theorem getD_set_ne (L:List Nat) (k j x:Nat) (h:k≠j):(L.set k x).getD j 0=L.getD j 0:=by
 rw [List.getD_eq_getElem?_getD,List.getD_eq_getElem?_getD,List.getElem?_set_ne h]
theorem val_replicate (n:Nat):val (List.replicate n 0)=0:=by
 induction n with
 | zero=>rfl
 | succ n ih=>simp [List.replicate_succ,val,ih]
theorem mul_step (V VN VL Va Vb P Q c x:Nat) (h0:V=Va*Vb) (h1:VL+Q*c=V+P*(x*Vb)) (h2:VN+Q*0=VL+Q*c):VN=(Va+P*x)*Vb:=by
 rw [Nat.add_mul,Nat.mul_assoc,← h0]; omega
theorem mulLimbs_any (B:Nat) (va vb:Value) (a b:List Nat) (w:World) (ha:IsL B w va a) (hb:IsL B w vb b) (hla:a.length≤100000) (hlb:b.length≤100000) :
 Calls Tryz.prog 119 #[va,vb] w fun e w'=>∃ v L,e=.returned v∧IsL w.heap.size w' v L∧val L=val a*val b∧L.length≤a.length+b.length∧isTrim L∧Up w w':=by
 obtain ⟨i0,a9,d6,d7,d8⟩:=info_parts Tryz.info_u32; obtain ⟨pa,ca,rfl,_⟩:=id ha; obtain ⟨pb,cb,rfl,_⟩:=id hb; obtain ⟨_,_,_,Z,y⟩:=ha.cells; obtain ⟨_,_,_,a5,a6⟩:=hb.cells; have HA:=Hd y; have HB:=Hd a6; clear y a6 ha hb
 go_enter Tryz.func119,Tryz.ntmps119
 go_wp2_with (at_make; refine wpList_make_full _ rfl _ _ 70 rfl w.heap.size 121 i0 (.int .u32 0) 1 Tryz.underlying70 a9 d6 d7 .i64 .i64 _ _ (a.length+b.length) rfl rfl ?m0 ?m1 ?m2 ?m3 ?m4 ?_)
 try (case m0=>first|rfl|omega)
 try (case m1=>first|rfl|omega)
 try (case m2=>(first|omega|(rw [d8]; omega)))
 try (case m3=>(unfold maxLen; omega))
 try (case m4=>exact leR)
 intro w1 u a7
 first|rw [made_zero] at u|rw [made_zero'] at u
 have I:RowT w1 w.heap.size (List.replicate (a.length+b.length) 0):=(row_of_full u).tail; have Y:Up w w1:=(Below.refl _ _).grown a7 leR (fun k h=>by cases h); clear u a7
 go_wp2
 go_loopw [16] (fun iv wr=>∃ (i:Nat) (L:List Nat),i≤a.length∧L.length=a.length+b.length∧okL L∧RowT wr w.heap.size L∧(∀ j,i+b.length≤j→L.getD j 0=0)∧iv=.int .i64 i ∧
  val L=val (a.take i)*val b∧Up w wr) (fun iv _=>a.length - (intOf iv).toNat)
 case atStart=>exact ⟨0,_,by omega,by simp,fun x hx=>by rw [List.eq_of_mem_replicate hx]; omega,I,fun j hj=>by simp [List.getD_eq_getElem?_getD,List.getElem?_replicate]; split<;>rfl,rfl,by simp [val_replicate,val],Y⟩
 case round=>
  clear I Y; obtain ⟨i,L,hi,d2,s,I,M,rfl,m,V⟩:=hrel
  by_cases a8:i<a.length
  ·obtain ⟨ba,oa,rfl,b3,y⟩:=HA.o i a8; rw [← V.cell (p:=⟨ba,oa+i,none⟩) b3] at y; have b5:=okL_getD a Z i a8; have T:Hid (val (a.take (i+1))=val (a.take i)+1000000000 ^ i*a.getD i 0):=val_take_succ a i; obtain ⟨x,hx⟩:=exW (a.getD i 0); rw [hx] at y b5 T; have HR:=Hd I; have U:=Hd M; have HV:=Hd m; have O:=Hd V; have b9:=Hd s; clear I M m V s hx
   go_wp2_with fail
   refine (addScaled_any w.heap.size i _ x _ pb cb L b _ HR.o b9.o (by omega) (by omega) a5 rfl (by omega) b5 ?_).mono ?_
   ·intro k hk; obtain ⟨c,off,e,hc,d5⟩:=HB.o k hk; exact ⟨c,off,e,hc,by rw [O.o.cell (p:=⟨c,off+k,none⟩) hc]; exact d5⟩
   rintro e w3 ⟨c,N,rfl,D,d3,H,J,hc,b4,a3⟩; have d4:=D.cell (i+b.length) (by omega); have g0:=D.frozen (i+b.length); have h0:N.getD (i+b.length) 0=0:=(getD_of_drop N L (i+b.length) _ J leR).trans (U.o _ leR); have K:=val_set N (i+b.length) c (by omega); rw [h0] at K; have d0:Hid (val (N.set (i+b.length) c)=val (a.take (i+1))*val b):=by
    unfold Hid
    rw [T.o]; exact mul_step _ _ _ _ _ _ _ c x HV.o b4 K
   have c7:Hid (RowT (w3.setCell ⟨w.heap.size,i+b.length,none⟩ (.int .u32 (c:Nat))) w.heap.size (N.set (i+b.length) c)):=D.set _ _ (by omega); have b7:Hid (Up w (w3.setCell ⟨w.heap.size,i+b.length,none⟩ (.int .u32 (c:Nat)))):=(O.o.trans a3).setCell leR _; have E:Hid (okL (N.set (i+b.length) c)∧(N.set (i+b.length) c).length=a.length+b.length):=⟨okL_set N H _ _ (by omega),by simp; omega⟩; have d1:Hid (∀ j,i+1+b.length≤j→(N.set (i+b.length) c).getD j 0=0):=fun j hj=>by
    rw [getD_set_ne _ _ _ _ (by omega),getD_of_drop N L (i+b.length) j J (by omega)]; exact U.o j (by omega)
   have f9:c<1000000000:=by omega
   clear D d3 H J hc b4 a3 h0 K
   go_wp2
   go_roundw
   case rel=>exact ⟨i+1,N.set (i+b.length) c,by omega,E.o.2,E.o.1,c7.o,d1.o,by go_num,d0.o,b7.o⟩
   case measure=>simp [intOf]; omega
  ·obtain rfl:i=a.length:=by omega
   rw [List.take_of_length_le leR] at m; have hI:IsL w.heap.size wr (.slice (some ⟨w.heap.size,0,none⟩) (a.length+b.length) (a.length+b.length)) L:=by
    have h:=I.isL (B:=w.heap.size) (cap:=a.length+b.length) leR s (by omega) (by unfold maxLen; omega); rw [d2] at h; exact h
   have HI:=Hd hI; have HT:Hid (val (trimL L)=val a*val b∧(trimL L).length≤a.length+b.length∧isTrim (trimL L)):=⟨by rw [val_trimL]; exact m,by have:=trimL_len L; omega,trimL_trim _⟩; have b8:=Hd V; clear m I V s M hI
   go_wp2_with fail
   refine (trimLimbs_any w.heap.size _ L _ HI.o).mono ?_; rintro e w5 ⟨v,rfl,hcut,rfl⟩; have HW:Hid (IsL w.heap.size w5 v (trimL L)):=hcut _ _ HI.o; obtain ⟨pv,cv,hv,_⟩:=HW.o; subst hv; clear hcut
   go_wp2
   go_ret
   exact ⟨_,_,rfl,HW.o,HT.o.1,HT.o.2.1,HT.o.2.2,b8.o⟩
end Go.Proofs.YtfclfbpjjlinhaaGreatDoor
