import Derived.Ground.SlgnProg
import Derived.Shelf.SlicesE.Clone
import Derived.Test.YtknfmkeipeikkaaGreatDoorM4p
import Derived.Test.YtknfmkeipeikkaaGreatDoorOfImplp
set_option maxRecDepth 100000
set_option maxHeartbeats 2000000
namespace Go.Proofs.YtknfmkeipeikkaaGreatDoor
open Go.ChangeShapes Go.WideShapes Go.ChangeAt Go.RowKit Go.Shelf
def cloneRen:Go.Shelf.Ren:=⟨fun|41=>105|n=>n,fun|22=>51|23=>87|4=>4|n=>n,fun|n=>n⟩
theorem cloneLays:Go.Proofs.SlLaysE0.n41 Tryz.prog cloneRen:={
 mixed:=by kernel_rfl
 f41:=⟨Tryz.f105.name,by decide,Tryz.func105.trans (congrArg some (by kernel_rfl))⟩
 t4:=Tryz.underlying4
 a4:=Tryz.isAgg4
 z4:=Tryz.sizeOf4
 v4:=Tryz.zeroValue4
 t22:=Tryz.underlying51
 a22:=Tryz.isAgg51
 z22:=Tryz.sizeOf51
 v22:=Tryz.zeroValue51 }
theorem clone_row (b off n c:Nat) (a:List Nat) (w:World) (hl:a.length=n) (hn:n≤1000000) (hc:∀ j,j<a.length→w.cell? ⟨b,off+j,none⟩=some (.int .u32 (a.getD j 0:Nat))) :
 Calls Tryz.prog 105 #[.slice (some ⟨b,off,none⟩) n c] w fun e w'=>∃ g cap,e=.returned (.slice (some ⟨g,0,none⟩) n cap)∧n≤cap∧cap≤maxLen∧w.heap.size≤g∧RowT w' g a∧Up w w':=by
 obtain ⟨i0,h,E,H,I⟩:=info_parts Tryz.info_u32; refine (AnyE.slices_Clone cloneLays i0 (.int .u32 0) 1 4 h E H I rfl (by omega) Tryz.sizeOf87 b off n c (U32s a) w (by simp [hl]) (by unfold maxLen; omega) (by omega) ?_ ?_).mono ?_
 ·intro j u K; simp only [U32s,List.getElem?_map,Option.map_eq_some_iff] at K; obtain ⟨x,U,rfl⟩:=K; obtain ⟨D,Z⟩:=List.getElem?_eq_some_iff.1 U; rw [hc j D,List.getD_eq_getElem?_getD,U]; rfl
 ·intro v T; simp only [U32s,List.mem_map] at T; obtain ⟨x,_,rfl⟩:=T; rfl
 rintro e w' ⟨v',rfl,m,hne,hb⟩
 rcases m.2 with ⟨e,_⟩|⟨g,cap,s,e,V,y,J,M,Y,O⟩
 ·exact absurd e hne
 refine ⟨g,cap,by rw [e],by omega,by omega,V,⟨s.toList.drop n,?_⟩,hb⟩; rw [y]; rw [Nat.mul_one] at O; rw [← O,List.take_append_drop,Array.toArray_toList]; rfl
open Go.ChangeShapes Go.WideShapes Go.ChangeAt Go.RowKit
theorem subLimbs_row (B ba oa ca:Nat) (vb:Value) (a b:List Nat) (w:World) (ha:IsL B w (.slice (some ⟨ba,oa,none⟩) a.length ca) a) (hb:IsL B w vb b) (hla:a.length≤100000) (hlb:b.length≤a.length) (hle:val b≤val a) :
 Calls Tryz.prog 86 #[.slice (some ⟨ba,oa,none⟩) a.length ca,vb] w fun e w'=>∃ v L,e=.returned v∧IsL w.heap.size w' v L∧val L+val b=val a∧L.length≤a.length∧isTrim L∧Up w w':=by
 obtain ⟨pb,cb,rfl,_⟩:=id hb; obtain ⟨_,_,_,E,K⟩:=ha.cells; obtain ⟨_,_,_,J,O⟩:=hb.cells; have HA:Hid (∀ i,i<a.length→w.cell? ⟨ba,oa+i,none⟩=some (.int .u32 (a.getD i 0:Nat))):=fun i hi=>by
  obtain ⟨b',b4,e,_,T⟩:=K i hi; simp only [Option.some.injEq,Addr.mk.injEq,and_true] at e; obtain ⟨rfl,rfl⟩:=e; exact T
 have HB:=Hd O; have V:=Hd hle; clear K O ha hb hle
 go_enter Tryz.func86,Tryz.ntmps86
 go_wp2_with fail
 refine (clone_row ba oa a.length ca a _ rfl (by omega) HA.o).mono ?_; rintro e w1 ⟨g,cap,rfl,M,u,hg,hR,H⟩; have HR:=Hd hR; have y:=Hd H; have Y:=Hd u; clear hR H u
 go_wp2_with fail
 refine (subScaled_any g a.length cap 1 _ pb cb a b w1 HR.o E leR (by omega) hlb J rfl M (by omega) ?_).mono ?_
 ·intro i hi; obtain ⟨c,off,e,T,a3⟩:=HB.o i hi; exact ⟨c,off,e,by omega,by rw [y.o.cell (p:=⟨c,off+i,none⟩) T]; exact a3⟩
 rintro e w3 ⟨c,L,rfl,D,s,j,a5,T,m,I⟩; have U:Hid (Up w w3):=y.o.trans (I.mono hg); have HI:Hid (IsL w.heap.size w3 (.slice (some ⟨g,0,none⟩) a.length cap) L):=by
  have h:=D.isL (B:=w.heap.size) (cap:=cap) hg j (by omega) Y.o; rw [s] at h; exact h
 have HV:Hid (val L+val b=val a∧L.length=a.length):=by
  refine ⟨?_,s⟩; rw [Nat.one_mul,List.take_of_length_le (by omega),List.take_of_length_le leR] at m; exact sub_end (1000000000 ^ a.length) c _ _ _ m (by rw [← s]; exact val_lt L j) V.o
 clear D s j a5 m I
 go_wp2_with fail
 refine (trimLimbs_any w.heap.size _ L _ HI.o).mono ?_; rintro e w5 ⟨v,rfl,hcut,rfl⟩; have HW:Hid (IsL w.heap.size w5 v (trimL L)):=hcut _ _ HI.o; have Z:Hid (val (trimL L)+val b=val a∧(trimL L).length≤a.length∧isTrim (trimL L)):=⟨by rw [val_trimL]; exact HV.o.1,by have:=trimL_len L; have:=HV.o.2; omega,trimL_trim _⟩; obtain ⟨pv,cv,hv,_⟩:=HW.o; subst hv; clear hcut
 go_wp2
 go_ret
 exact ⟨_,_,rfl,HW.o,Z.o.1,Z.o.2.1,Z.o.2.2,U.o⟩
theorem subLimbs_any (B:Nat) (va vb:Value) (a b:List Nat) (w:World) (ha:IsL B w va a) (hb:IsL B w vb b) (hne:a≠[]) (hla:a.length≤100000) (hlb:b.length≤a.length) (hle:val b≤val a) :
 Calls Tryz.prog 86 #[va,vb] w fun e w'=>∃ v L,e=.returned v∧IsL w.heap.size w' v L∧val L+val b=val a∧L.length≤a.length∧isTrim L∧Up w w':=by
 obtain ⟨D,m,rfl,hl,j,s,u⟩:=id ha
 rcases u with h|⟨y,off,rfl,_⟩
 ·exact absurd h hne
 exact subLimbs_row B _ _ m vb a b w ha hb hla hlb hle
end Go.Proofs.YtknfmkeipeikkaaGreatDoor
