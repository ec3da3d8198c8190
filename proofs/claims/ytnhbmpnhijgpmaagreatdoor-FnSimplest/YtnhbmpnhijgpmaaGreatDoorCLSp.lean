import Derived.Ground.SlgnProg
import Derived.Shelf.SlicesE.Clone
import Derived.Test.YtnhbmpnhijgpmaaGreatDoorM4p
import Derived.Test.YtnhbmpnhijgpmaaGreatDoorOfImplp
set_option maxRecDepth 100000
set_option maxHeartbeats 2000000
namespace Go.Proofs.YtnhbmpnhijgpmaaGreatDoor
open Go.ChangeShapes Go.WideShapes Go.ChangeAt Go.RowKit Go.Shelf
def cloneRen:Go.Shelf.Ren:=⟨fun|41=>117|n=>n,fun|22=>47|23=>85|4=>4|n=>n,fun|n=>n⟩
theorem cloneLays:Go.Proofs.SlLaysE0.n41 Tryz.prog cloneRen:={
 mixed:=by kernel_rfl
 f41:=⟨Tryz.f117.name,by decide,Tryz.func117.trans (congrArg some (by kernel_rfl))⟩
 t4:=Tryz.underlying4
 a4:=Tryz.isAgg4
 z4:=Tryz.sizeOf4
 v4:=Tryz.zeroValue4
 t22:=Tryz.underlying47
 a22:=Tryz.isAgg47
 z22:=Tryz.sizeOf47
 v22:=Tryz.zeroValue47 }
theorem clone_row (b off n c:Nat) (a:List Nat) (w:World) (hl:a.length=n) (hn:n≤1000000) (hc:∀ j,j<a.length→w.cell? ⟨b,off+j,none⟩=some (.int .u32 (a.getD j 0:Nat))) :
 Calls Tryz.prog 117 #[.slice (some ⟨b,off,none⟩) n c] w fun e w'=>∃ g cap,e=.returned (.slice (some ⟨g,0,none⟩) n cap)∧n≤cap∧cap≤maxLen∧w.heap.size≤g∧RowT w' g a∧Up w w':=by
 obtain ⟨U,i,E,F,G⟩:=info_parts Tryz.info_u32; refine (AnyE.slices_Clone cloneLays U (.int .u32 0) 1 4 i E F G rfl (by omega) Tryz.sizeOf85 b off n c (U32s a) w (by simp [hl]) (by unfold maxLen; omega) (by omega) ?_ ?_).mono ?_
 ·intro j u I; simp only [U32s,List.getElem?_map,Option.map_eq_some_iff] at I; obtain ⟨x,M,rfl⟩:=I; obtain ⟨A,T⟩:=List.getElem?_eq_some_iff.1 M; rw [hc j A,List.getD_eq_getElem?_getD,M]; rfl
 ·intro v L; simp only [U32s,List.mem_map] at L; obtain ⟨x,_,rfl⟩:=L; rfl
 rintro e w' ⟨V,rfl,m,D,O⟩
 rcases m.2 with ⟨e,_⟩|⟨g,cap,s,e,Q,t,H,J,S,K⟩
 ·exact absurd e D
 refine ⟨g,cap,by rw [e],by omega,by omega,Q,⟨s.toList.drop n,?_⟩,O⟩; rw [t]; rw [Nat.mul_one] at K; rw [← K,List.take_append_drop,Array.toArray_toList]; rfl
open Go.ChangeShapes Go.WideShapes Go.ChangeAt Go.RowKit
theorem subLimbs_row (B ba oa ca:Nat) (vb:Value) (a b:List Nat) (w:World) (ha:IsL B w (.slice (some ⟨ba,oa,none⟩) a.length ca) a) (hb:IsL B w vb b) (hla:a.length≤100000) (hlb:b.length≤a.length) (hle:val b≤val a) :
 Calls Tryz.prog 104 #[.slice (some ⟨ba,oa,none⟩) a.length ca,vb] w fun e w'=>∃ v L,e=.returned v∧IsL w.heap.size w' v L∧val L+val b=val a∧L.length≤a.length∧isTrim L∧Up w w':=by
 obtain ⟨pb,cb,rfl,_⟩:=id hb; obtain ⟨_,_,_,D,H⟩:=ha.cells; obtain ⟨_,_,_,G,J⟩:=hb.cells; have HA:Hid (∀ i,i<a.length→w.cell? ⟨ba,oa+i,none⟩=some (.int .u32 (a.getD i 0:Nat))):=fun i hi=>by
  obtain ⟨b',a6,e,_,M⟩:=H i hi; simp only [Option.some.injEq,Addr.mk.injEq,and_true] at e; obtain ⟨rfl,rfl⟩:=e; exact M
 have HB:=Hd J; have Q:=Hd hle; clear H J ha hb hle
 go_enter Tryz.func104,Tryz.ntmps104
 go_wp2_with fail
 refine (clone_row ba oa a.length ca a _ rfl (by omega) HA.o).mono ?_; rintro e w1 ⟨g,cap,rfl,I,t,hg,hR,E⟩; have HR:=Hd hR; have u:=Hd E; have S:=Hd t; clear hR E t
 go_wp2_with fail
 refine (subScaled_any g a.length cap 1 _ pb cb a b w1 HR.o D leR (by omega) hlb G rfl I (by omega) ?_).mono ?_
 ·intro i hi; obtain ⟨c,K,e,M,U⟩:=HB.o i hi; exact ⟨c,K,e,by omega,by rw [u.o.cell (p:=⟨c,K+i,none⟩) M]; exact U⟩
 rintro e w3 ⟨c,L,rfl,A,s,j,V,M,m,F⟩; have O:Hid (Up w w3):=u.o.trans (F.mono hg); have W:Hid (IsL w.heap.size w3 (.slice (some ⟨g,0,none⟩) a.length cap) L):=by
  have h:=A.isL (B:=w.heap.size) (cap:=cap) hg j (by omega) S.o; rw [s] at h; exact h
 have Y:Hid (val L+val b=val a∧L.length=a.length):=by
  refine ⟨?_,s⟩; rw [Nat.one_mul,List.take_of_length_le (by omega),List.take_of_length_le leR] at m; exact sub_end (1000000000 ^ a.length) c _ _ _ m (by rw [← s]; exact val_lt L j) Q.o
 clear A s j V m F
 go_wp2_with fail
 refine (trimLimbs_any w.heap.size _ L _ W.o).mono ?_; rintro e w5 ⟨v,rfl,hcut,rfl⟩; have Z:Hid (IsL w.heap.size w5 v (trimL L)):=hcut _ _ W.o; have T:Hid (val (trimL L)+val b=val a∧(trimL L).length≤a.length∧isTrim (trimL L)):=⟨by rw [val_trimL]; exact Y.o.1,by have:=trimL_len L; have:=Y.o.2; omega,trimL_trim _⟩; obtain ⟨pv,cv,hv,_⟩:=Z.o; subst hv; clear hcut
 go_wp2
 go_ret
 exact ⟨_,_,rfl,Z.o,T.o.1,T.o.2.1,T.o.2.2,O.o⟩
theorem subLimbs_any (B:Nat) (va vb:Value) (a b:List Nat) (w:World) (ha:IsL B w va a) (hb:IsL B w vb b) (hne:a≠[]) (hla:a.length≤100000) (hlb:b.length≤a.length) (hle:val b≤val a) :
 Calls Tryz.prog 104 #[va,vb] w fun e w'=>∃ v L,e=.returned v∧IsL w.heap.size w' v L∧val L+val b=val a∧L.length≤a.length∧isTrim L∧Up w w':=by
 obtain ⟨A,j,rfl,hl,i,m,s⟩:=id ha
 rcases s with h|⟨u,t,rfl,_⟩
 ·exact absurd h hne
 exact subLimbs_row B _ _ j vb a b w ha hb hla hlb hle
end Go.Proofs.YtnhbmpnhijgpmaaGreatDoor
