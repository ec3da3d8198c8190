import Derived.Test.YtnhbmpnhijgpmaaGreatDoorM4p
import Derived.Test.YtnhbmpnhijgpmaaGreatDoorOfImplp
set_option maxRecDepth 100000
set_option maxHeartbeats 2000000
namespace Go.Proofs.YtnhbmpnhijgpmaaGreatDoor
open Go.ChangeShapes Go.WideShapes Go.ChangeAt Go.RowKit
theorem getD_of_drop (L A:List Nat) (k j:Nat) (h:L.drop k=A.drop k) (hj:k≤j):L.getD j 0=A.getD j 0:=by
 have e:∀ M:List Nat,M.getD j 0=(M.drop k).getD (j - k) 0:=fun M=>by rw [List.getD_eq_getElem?_getD,List.getD_eq_getElem?_getD,List.getElem?_drop,Nat.add_sub_cancel' hj]
 rw [e L,e A,h]
theorem getD_set_ne (L:List Nat) (k j x:Nat) (h:k≠j):(L.set k x).getD j 0=L.getD j 0:=by
 rw [List.getD_eq_getElem?_getD,List.getD_eq_getElem?_getD,List.getElem?_set_ne h]
theorem val_replicate (n:Nat):val (List.replicate n 0)=0:=by
 induction n with
 | zero=>rfl
 | succ n ih=>simp [List.replicate_succ,val,ih]
theorem mul_step (V VN VL Va Vb P Q c x:Nat) (h0:V=Va*Vb) (h1:VL+Q*c=V+P*(x*Vb)) (h2:VN+Q*0=VL+Q*c):VN=(Va+P*x)*Vb:=by
 rw [Nat.add_mul,Nat.mul_assoc,← h0]; omega
theorem mulLimbs_any (B:Nat) (va vb:Value) (a b:List Nat) (w:World) (ha:IsL B w va a) (hb:IsL B w vb b) (hla:a.length≤100000) (hlb:b.length≤100000) :
 Calls Tryz.prog 100 #[va,vb] w fun e w'=>∃ v L,e=.returned v∧IsL w.heap.size w' v L∧val L=val a*val b∧L.length≤a.length+b.length∧isTrim L∧Up w w':=by
 obtain ⟨i0,Z,c9,d0,d1⟩:=info_parts Tryz.info_u32; obtain ⟨pa,ca,rfl,_⟩:=id ha; obtain ⟨pb,cb,rfl,_⟩:=id hb; obtain ⟨_,_,_,S,u⟩:=ha.cells; obtain ⟨_,_,_,U,V⟩:=hb.cells; have HA:=Hd u; have HB:=Hd V; clear u V ha hb
 go_enter Tryz.func100,Tryz.ntmps100
 go_wp2_with (at_make; refine wpList_make_full _ rfl _ _ 47 rfl w.heap.size 85 i0 (.int .u32 0) 1 Tryz.underlying47 Z c9 d0 .i64 .i64 _ _ (a.length+b.length) rfl rfl ?m0 ?m1 ?m2 ?m3 ?m4 ?_)
 try (case m0=>first|rfl|omega)
 try (case m1=>first|rfl|omega)
 try (case m2=>(first|omega|(rw [d1]; omega)))
 try (case m3=>(unfold maxLen; omega))
 try (case m4=>exact leR)
 intro w1 t W
 first|rw [made_zero] at t|rw [made_zero'] at t
 have F:RowT w1 w.heap.size (List.replicate (a.length+b.length) 0):=(row_of_full t).tail; have Q:Up w w1:=(Below.refl _ _).grown W leR (fun k h=>by cases h); clear t W
 go_wp2
 go_loopw [16] (fun iv wr=>∃ (i:Nat) (L:List Nat),i≤a.length∧L.length=a.length+b.length∧okL L∧RowT wr w.heap.size L∧(∀ j,i+b.length≤j→L.getD j 0=0)∧iv=.int .i64 i ∧
  val L=val (a.take i)*val b∧Up w wr) (fun iv _=>a.length - (intOf iv).toNat)
 case atStart=>exact ⟨0,_,by omega,by simp,fun x hx=>by rw [List.eq_of_mem_replicate hx]; omega,F,fun j hj=>by simp [List.getD_eq_getElem?_getD,List.getElem?_replicate]; split<;>rfl,rfl,by simp [val_replicate,val],Q⟩
 case round=>
  clear F Q; obtain ⟨i,L,hi,b9,s,F,I,rfl,m,O⟩:=hrel
  by_cases Y:i<a.length
  ·obtain ⟨ba,oa,rfl,a3,u⟩:=HA.o i Y; rw [← O.cell (p:=⟨ba,oa+i,none⟩) a3] at u; have a6:=okL_getD a S i Y; have K:Hid (val (a.take (i+1))=val (a.take i)+1000000000 ^ i*a.getD i 0):=val_take_succ a i; obtain ⟨x,hx⟩:=exW (a.getD i 0); rw [hx] at u a6 K; have HR:=Hd F; have M:=Hd I; have HV:=Hd m; have J:=Hd O; have b4:=Hd s; clear F I m O s hx
   go_wp2_with fail
   refine (addScaled_any w.heap.size i _ x _ pb cb L b _ HR.o b4.o (by omega) (by omega) U rfl (by omega) a6 ?_).mono ?_
   ·intro k hk; obtain ⟨c,a7,e,hc,c8⟩:=HB.o k hk; exact ⟨c,a7,e,hc,by rw [J.o.cell (p:=⟨c,a7+k,none⟩) hc]; exact c8⟩
   rintro e w3 ⟨c,N,rfl,A,c6,E,G,hc,a5,T⟩; have c7:=A.cell (i+b.length) (by omega); have e5:=A.frozen (i+b.length); have h0:N.getD (i+b.length) 0=0:=(getD_of_drop N L (i+b.length) _ G leR).trans (M.o _ leR); have H:=val_set N (i+b.length) c (by omega); rw [h0] at H; have b7:Hid (val (N.set (i+b.length) c)=val (a.take (i+1))*val b):=by
    unfold Hid
    rw [K.o]; exact mul_step _ _ _ _ _ _ _ c x HV.o a5 H
   have b5:Hid (RowT (w3.setCell ⟨w.heap.size,i+b.length,none⟩ (.int .u32 (c:Nat))) w.heap.size (N.set (i+b.length) c)):=A.set _ _ (by omega); have a9:Hid (Up w (w3.setCell ⟨w.heap.size,i+b.length,none⟩ (.int .u32 (c:Nat)))):=(J.o.trans T).setCell leR _; have D:Hid (okL (N.set (i+b.length) c)∧(N.set (i+b.length) c).length=a.length+b.length):=⟨okL_set N E _ _ (by omega),by simp; omega⟩; have b8:Hid (∀ j,i+1+b.length≤j→(N.set (i+b.length) c).getD j 0=0):=fun j hj=>by
    rw [getD_set_ne _ _ _ _ (by omega),getD_of_drop N L (i+b.length) j G (by omega)]; exact M.o j (by omega)
   have e4:c<1000000000:=by omega
   clear A c6 E G hc a5 T h0 H
   go_wp2
   go_roundw
   case rel=>exact ⟨i+1,N.set (i+b.length) c,by omega,D.o.2,D.o.1,b5.o,b8.o,by go_num,b7.o,a9.o⟩
   case measure=>simp [intOf]; omega
  ·obtain rfl:i=a.length:=by omega
   rw [List.take_of_length_le leR] at m; have hI:IsL w.heap.size wr (.slice (some ⟨w.heap.size,0,none⟩) (a.length+b.length) (a.length+b.length)) L:=by
    have h:=F.isL (B:=w.heap.size) (cap:=a.length+b.length) leR s (by omega) (by unfold maxLen; omega); rw [b9] at h; exact h
   have HI:=Hd hI; have HT:Hid (val (trimL L)=val a*val b∧(trimL L).length≤a.length+b.length∧isTrim (trimL L)):=⟨by rw [val_trimL]; exact m,by have:=trimL_len L; omega,trimL_trim _⟩; have b3:=Hd O; clear m F O s I hI
   go_wp2_with fail
   refine (trimLimbs_any w.heap.size _ L _ HI.o).mono ?_; rintro e w5 ⟨v,rfl,hcut,rfl⟩; have HW:Hid (IsL w.heap.size w5 v (trimL L)):=hcut _ _ HI.o; obtain ⟨pv,cv,hv,_⟩:=HW.o; subst hv; clear hcut
   go_wp2
   go_ret
   exact ⟨_,_,rfl,HW.o,HT.o.1,HT.o.2.1,HT.o.2.2,b3.o⟩
end Go.Proofs.YtnhbmpnhijgpmaaGreatDoor
