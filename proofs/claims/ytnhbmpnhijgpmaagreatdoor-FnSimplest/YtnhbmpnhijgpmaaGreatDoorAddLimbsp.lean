import Derived.Test.YtnhbmpnhijgpmaaGreatDoorM4p
import Derived.Test.YtnhbmpnhijgpmaaGreatDoorOfImplp
import Derived.Laws.CopyOwn
set_option maxRecDepth 100000
set_option maxHeartbeats 2000000
namespace Go.Proofs.YtnhbmpnhijgpmaaGreatDoor
open Go.ChangeShapes Go.WideShapes Go.ChangeAt Go.RowKit
theorem copy_row (w w1:World) (R n:Nat) (pa:Option Addr) (ca:Nat) (a:List Nat) (hn:a.length≤n) (hR:Row w1 R (List.replicate n 0)) (hRw:w.heap.size≤R) (hB1:Up w w1)
 (hA:∀ i,i<a.length→∃ b off,pa=some ⟨b,off,none⟩∧b<w.heap.size∧w.cell? ⟨b,off+i,none⟩=some (.int .u32 (a.getD i 0:Nat))) :
 ∃ w2,(∀ ty,(Builtin.copy_ #[47,47] ty #[.slice (some ⟨R,0,none⟩) n n,.slice pa a.length ca]).run Tryz.prog w1=.ok (goInt a.length) w2)∧Row w2 R (a++List.replicate (n - a.length) 0)∧Up w w2:=by
 have G:=Tryz.underlying47; have F:(Tryz.prog.info? 85).map (·.size)=some 1:=by
  obtain ⟨S,m,L,A,M⟩:=info_parts Tryz.info_u32; rw [m]; simp [A]
 by_cases D:a.length=0
 ·have e:a=[]:=List.eq_nil_of_length_eq_zero D; refine ⟨w1,fun ty=>?_,?_,hB1⟩
  ·rw [D]; exact Go.run_copy_none w1 _ _ ty _ _ pa n n 0 ca G F (by simp)
  subst e; simpa using hR
 obtain ⟨b,off,rfl,Q,_⟩:=hA 0 (by omega); refine ⟨w1.setRow R (U32s (a++List.replicate (n - a.length) 0)).toArray,fun ty=>?_,setRow_heap w1 R _ _ _ _ hR,below_setRow hB1 hRw _⟩; have h:=Go.run_copy_row (P:=Tryz.prog) w1 47 47 ty 85 R 0 n n ⟨b,off,none⟩ a.length ca _ _ (U32s a) G F hR ?_ ?_ ?_ ?_
 ·have e:(U32s (List.replicate n 0)).drop a.length=U32s (List.replicate (n - a.length) 0):=by simp [U32s]
  simp only [List.take_zero,List.nil_append,Nat.zero_add,List.length_map,e,← List.map_append] at h; exact h
 ·simp [hn]
 ·intro j v E; simp only [U32s,List.getElem?_map,Option.map_eq_some_iff] at E; obtain ⟨x,I,rfl⟩:=E; obtain ⟨u,K⟩:=List.getElem?_eq_some_iff.1 I; obtain ⟨O,J,e,s,t⟩:=hA j u; simp only [Option.some.injEq,Addr.mk.injEq,and_true] at e; obtain ⟨rfl,rfl⟩:=e; rw [show (Addr.add ⟨b,off,none⟩ j)=⟨b,off+j,none⟩ by simp [Addr.add],hB1.cell (p:=⟨b,off+j,none⟩) s,t,List.getD_eq_getElem?_getD,I]; rfl
 ·simp; omega
 intro v H; simp only [U32s,List.mem_map] at H; obtain ⟨x,_,rfl⟩:=H; rfl
theorem addLimbs_ge (B:Nat) (va vb:Value) (a b:List Nat) (w:World) (ha:IsL B w va a) (hb:IsL B w vb b) (hla:a.length≤100000) (hlb:b.length≤a.length) :
 Calls Tryz.prog 103 #[va,vb] w fun e w'=>∃ v L,e=.returned v∧IsL w.heap.size w' v L∧val L=val a+val b∧L.length≤a.length+1∧isTrim L∧Up w w':=by
 obtain ⟨i0,W,b5,b6,b7⟩:=info_parts Tryz.info_u32; obtain ⟨pa,ca,rfl,_⟩:=id ha; obtain ⟨pb,cb,rfl,_⟩:=id hb; obtain ⟨_,_,_,O,T⟩:=ha.cells; obtain ⟨_,_,_,S,U⟩:=hb.cells; have HA:=Hd T; have HB:=Hd U; clear T U ha hb
 go_enter Tryz.func103,Tryz.ntmps103
 go_wp2_with (at_make; refine wpList_make_full _ rfl _ _ 47 rfl w.heap.size 85 i0 (.int .u32 0) 1 Tryz.underlying47 W b5 b6 .i64 .i64 _ _ (a.length+1) rfl rfl ?m0 ?m1 ?m2 ?m3 ?m4 ?_)
 try (case m0=>first|rfl|omega)
 try (case m1=>first|rfl|omega)
 try (case m2=>(first|omega|(rw [b7]; omega)))
 try (case m3=>(unfold maxLen; omega))
 try (case m4=>exact leR)
 intro w1 j V
 first|rw [made_zero] at j|rw [made_zero'] at j
 have hR:Row w1 w.heap.size (List.replicate (a.length+1) 0):=row_of_full j; have I:Up w w1:=(Below.refl _ _).grown V leR (fun k h=>by cases h); clear j V; obtain ⟨w2,c8,E,J⟩:=copy_row w w1 w.heap.size (a.length+1) pa ca a (by omega) hR leR I HA.o; rw [show a.length+1 - a.length=1 by omega] at E; have a5:=Hd E; have G:=Hd J; have Y:okL (a++List.replicate 1 0):=fun x hx=>by
  rcases List.mem_append.1 hx with h|h
  ·exact O x h
  simp at h; omega
 clear hR I E J
 go_wp2_with fail
 refine (addInto_any w.heap.size a.length (a.length+1) _ pb cb (a++List.replicate 1 0) b w2 a5.o Y (by simp) (by simp; omega) hlb S rfl (by omega) ?_).mono ?_
 ·intro i hi; obtain ⟨c,Z,e,hc,a9⟩:=HB.o i hi; exact ⟨c,Z,e,hc,by rw [G.o.cell (p:=⟨c,Z+i,none⟩) hc]; exact a9⟩
 rintro e w3 ⟨c,L,rfl,s,D,t,b3,hc,u,Q⟩; have K:Up w w3:=G.o.trans Q; have F:=s.cell a.length (by rw [D]; simp); have b4:=s.frozen a.length; have A:Hid (Row (w3.setCell ⟨w.heap.size,a.length,none⟩ (.int .u32 (c:Nat))) w.heap.size (L.set a.length c)):=s.set _ _; have H:Hid (Up w (w3.setCell ⟨w.heap.size,a.length,none⟩ (.int .u32 (c:Nat)))):=K.setCell leR _; have m:Hid (okL (L.set a.length c)∧(L.set a.length c).length=a.length+1∧val (L.set a.length c)=val a+val b):=by
  have hl:L.length=a.length+1:=by rw [D]; simp
  refine ⟨okL_set L t _ _ (by omega),by simp [hl],?_⟩; have h1:=val_take_set L a.length c (by omega); rw [List.take_of_length_le (by simp [hl])] at h1; rw [h1,u]; simp
 clear s D t b3 u Q K
 go_wp2_with fail
 obtain ⟨W4,M⟩:=exW (w3.setCell ⟨w.heap.size,a.length,none⟩ (.int .u32 (c:Nat))); rw [M] at A H ⊢; generalize L.set a.length c=N at A m; have hI:IsL w.heap.size W4 (.slice (some ⟨w.heap.size,0,none⟩) (a.length+1) (a.length+1)) N:=by
  have h:=A.o.isL (B:=w.heap.size) (cap:=a.length+1) leR m.o.1 (by have:=m.o.2.1; omega) (by unfold maxLen; omega); rw [m.o.2.1] at h; exact h
 clear M F b4; refine (trimLimbs_any w.heap.size _ N _ hI).mono ?_; rintro e w5 ⟨v,rfl,hcut,rfl⟩; have HV:Hid (IsL w.heap.size w5 v (trimL N)):=hcut _ _ hI; have HT:Hid (val (trimL N)=val a+val b∧(trimL N).length≤a.length+1∧isTrim (trimL N)):=⟨by rw [val_trimL]; exact m.o.2.2,by have:=trimL_len N; have:=m.o.2.1; omega,trimL_trim _⟩; obtain ⟨pv,cv,hv,_⟩:=HV.o; subst hv; clear hcut hI
 go_wp2
 go_ret
 exact ⟨_,_,rfl,HV.o,HT.o.1,HT.o.2.1,HT.o.2.2,H.o⟩
theorem addLimbs_lt (B:Nat) (va vb:Value) (a b:List Nat) (w:World) (ha:IsL B w va a) (hb:IsL B w vb b) (hla:a.length≤100000) (hlb:b.length<a.length) :
 Calls Tryz.prog 103 #[vb,va] w fun e w'=>∃ v L,e=.returned v∧IsL w.heap.size w' v L∧val L=val a+val b∧L.length≤a.length+1∧isTrim L∧Up w w':=by
 obtain ⟨i0,W,b5,b6,b7⟩:=info_parts Tryz.info_u32; obtain ⟨pa,ca,rfl,_⟩:=id ha; obtain ⟨pb,cb,rfl,_⟩:=id hb; obtain ⟨_,_,_,O,T⟩:=ha.cells; obtain ⟨_,_,_,S,U⟩:=hb.cells; have HA:=Hd T; have HB:=Hd U; clear T U ha hb
 go_enter Tryz.func103,Tryz.ntmps103
 go_wp2_with (at_make; refine wpList_make_full _ rfl _ _ 47 rfl w.heap.size 85 i0 (.int .u32 0) 1 Tryz.underlying47 W b5 b6 .i64 .i64 _ _ (a.length+1) rfl rfl ?m0 ?m1 ?m2 ?m3 ?m4 ?_)
 try (case m0=>first|rfl|omega)
 try (case m1=>first|rfl|omega)
 try (case m2=>(first|omega|(rw [b7]; omega)))
 try (case m3=>(unfold maxLen; omega))
 try (case m4=>exact leR)
 intro w1 j V
 first|rw [made_zero] at j|rw [made_zero'] at j
 have hR:Row w1 w.heap.size (List.replicate (a.length+1) 0):=row_of_full j; have I:Up w w1:=(Below.refl _ _).grown V leR (fun k h=>by cases h); clear j V; obtain ⟨w2,c8,E,J⟩:=copy_row w w1 w.heap.size (a.length+1) pa ca a (by omega) hR leR I HA.o; rw [show a.length+1 - a.length=1 by omega] at E; have a5:=Hd E; have G:=Hd J; have Y:okL (a++List.replicate 1 0):=fun x hx=>by
  rcases List.mem_append.1 hx with h|h
  ·exact O x h
  simp at h; omega
 clear hR I E J
 go_wp2_with fail
 refine (addInto_any w.heap.size a.length (a.length+1) _ pb cb (a++List.replicate 1 0) b w2 a5.o Y (by simp) (by simp; omega) (by omega) S rfl (by omega) ?_).mono ?_
 ·intro i hi; obtain ⟨c,Z,e,hc,a9⟩:=HB.o i hi; exact ⟨c,Z,e,hc,by rw [G.o.cell (p:=⟨c,Z+i,none⟩) hc]; exact a9⟩
 rintro e w3 ⟨c,L,rfl,s,D,t,b3,hc,u,Q⟩; have K:Up w w3:=G.o.trans Q; have F:=s.cell a.length (by rw [D]; simp); have b4:=s.frozen a.length; have A:Hid (Row (w3.setCell ⟨w.heap.size,a.length,none⟩ (.int .u32 (c:Nat))) w.heap.size (L.set a.length c)):=s.set _ _; have H:Hid (Up w (w3.setCell ⟨w.heap.size,a.length,none⟩ (.int .u32 (c:Nat)))):=K.setCell leR _; have m:Hid (okL (L.set a.length c)∧(L.set a.length c).length=a.length+1∧val (L.set a.length c)=val a+val b):=by
  have hl:L.length=a.length+1:=by rw [D]; simp
  refine ⟨okL_set L t _ _ (by omega),by simp [hl],?_⟩; have h1:=val_take_set L a.length c (by omega); rw [List.take_of_length_le (by simp [hl])] at h1; rw [h1,u]; simp
 clear s D t b3 u Q K
 go_wp2_with fail
 obtain ⟨W4,M⟩:=exW (w3.setCell ⟨w.heap.size,a.length,none⟩ (.int .u32 (c:Nat))); rw [M] at A H ⊢; generalize L.set a.length c=N at A m; have hI:IsL w.heap.size W4 (.slice (some ⟨w.heap.size,0,none⟩) (a.length+1) (a.length+1)) N:=by
  have h:=A.o.isL (B:=w.heap.size) (cap:=a.length+1) leR m.o.1 (by have:=m.o.2.1; omega) (by unfold maxLen; omega); rw [m.o.2.1] at h; exact h
 clear M F b4; refine (trimLimbs_any w.heap.size _ N _ hI).mono ?_; rintro e w5 ⟨v,rfl,hcut,rfl⟩; have HV:Hid (IsL w.heap.size w5 v (trimL N)):=hcut _ _ hI; have HT:Hid (val (trimL N)=val a+val b∧(trimL N).length≤a.length+1∧isTrim (trimL N)):=⟨by rw [val_trimL]; exact m.o.2.2,by have:=trimL_len N; have:=m.o.2.1; omega,trimL_trim _⟩; obtain ⟨pv,cv,hv,_⟩:=HV.o; subst hv; clear hcut hI
 go_wp2
 go_ret
 exact ⟨_,_,rfl,HV.o,HT.o.1,HT.o.2.1,HT.o.2.2,H.o⟩
theorem addLimbs_any (B:Nat) (va vb:Value) (a b:List Nat) (w:World) (ha:IsL B w va a) (hb:IsL B w vb b) (hla:a.length≤100000) (hlb:b.length≤100000) :
 Calls Tryz.prog 103 #[va,vb] w fun e w'=>∃ v L,e=.returned v∧IsL w.heap.size w' v L∧val L=val a+val b∧(L.length≤a.length+1∨L.length≤b.length+1)∧isTrim L∧Up w w':=by
 by_cases h:b.length≤a.length
 ·refine (addLimbs_ge B va vb a b w ha hb hla h).mono ?_; rintro e w' ⟨v,L,i,j,h3,h4,h5⟩; exact ⟨v,L,i,j,h3,.inl h4,h5⟩
 refine (addLimbs_lt B vb va b a w hb ha hlb (by omega)).mono ?_; rintro e w' ⟨v,L,i,j,h3,h4,h5⟩; exact ⟨v,L,i,j,by rw [h3,Nat.add_comm],.inr h4,h5⟩
end Go.Proofs.YtnhbmpnhijgpmaaGreatDoor
