import Derived.Test.YtnhbmpnhijgpmaaGreatDoorDivXp
import Derived.Test.YtnhbmpnhijgpmaaGreatDoorU1p
import Derived.Deep.DeepCutAuto
namespace Go.Proofs.YtnhbmpnhijgpmaaGreatDoor
open Go.ChangeShapes Go.WideShapes Go.ChangeAt Go.RowKit
theorem l1Div_any (B:Nat) (za zb:Value) (na nb:Bool) (a b:List Nat) (w:World) (hBw:B≤w.heap.size) (hza:IsZ B w za na a) (hzb:IsZ B w zb nb b) (hla:a.length≤100000) (hlb:b.length≤100000) (hne:b≠[]) :
 Calls Tryz.prog 44 #[za,zb] w fun e w'=>∃ z1 z2 q r,e=.returned (.tuple #[z1,z2])∧(IsN w.heap.size w' z1 q∧IsN w.heap.size w' z2 r)∧IsDiv (sg na (val a)) (sg nb (val b)) q r∧Up w w':=by
 have i:=hza.1; have j:=hzb.1; have m:=hzb.2.1; obtain ⟨x,O,L,la,E,rfl,G,I⟩:=hza.form2; obtain ⟨y,Q,M,lb,F,rfl,H,J⟩:=hzb.form2
 by_cases u:la=0∧lb=0
 ·have s:=I u.1; have t:=J u.2; rw [s.2,t.2]; have A:=sg_lt na a i s.1; have D:=sg_lt nb b j t.1; exact l1Div_small _ _ w A.1 A.2 D.1 D.2 (fun h=>hne ((sg_zero_iff nb b m).1 h))
 have K:((la:Int)==0)=false∨(((la:Int)==0)=true∧((lb:Int)==0)=false):=by
  by_cases h:la=0
  ·exact .inr ⟨by rw [beq_iff_eq]; omega,by rw [beq_eq_false_iff_ne]; omega⟩
  exact .inl (by rw [beq_eq_false_iff_ne]; omega)
 have h:=l1Div_big B x y O Q L la E M lb F na nb a b w hBw K hza hzb _ _ G H hla hlb hne; rw [sg_negOf,sg_negOf] at h; exact h
theorem foldl_pos (l:List UInt8) (a:Nat) (h:1≤a):1≤l.foldl (fun a c=>a*10+(c.toNat - 48)) a:=by
 induction l generalizing a with
 | nil=>exact h
 | cons c l ih=>exact ih _ (by show 1≤a*10+(c.toNat - 48); omega)
theorem num_pos (c:UInt8) (l:List UInt8) (h:49≤c.toNat):1≤num (c::l):=foldl_pos l _ (by show 1≤0*10+(c.toNat - 48); omega)
theorem lim_pos (d:List UInt8) (c:UInt8) (l:List UInt8) (hd:d=c::l) (hc:49≤c.toNat):trimL (chunks d)≠[]:=by
 obtain ⟨k,i⟩:∃ k,cnt d.length=k+1:=⟨cnt d.length - 1,by rw [hd]; unfold cnt; simp; omega⟩; have t:1≤d.length - 9*k∧d.length - 9*k≤9:=by unfold cnt at i; rw [hd] at i ⊢; simp at i ⊢; omega
 have s:chunk d k≠0:=by
  unfold chunk; rw [show d.length - 9*k - 9=0 by omega,List.drop_zero]; obtain ⟨m,j⟩:∃ m,d.length - 9*k=m+1:=⟨d.length - 9*k - 1,by omega⟩; rw [j,hd,List.take_succ_cons]; have:=num_pos c (l.take m) hc; omega
 unfold chunks; rw [i,List.range_succ,List.map_append,List.map_cons,List.map_nil,trimL_snoc_pos _ _ s]; simp
theorem zero_text (t:ByteArray) (h:isIntB t=true) (h0:(t.toList==[48])=false):numT t≠0:=by
 intro u; have hl:lim t=[]:=(sg_zero_iff _ _ (trimL_trim _)).1 u; unfold isIntB at h; rw [h0] at h; simp only [Bool.and_eq_true,Bool.or_false,decide_eq_true_eq,Bool.not_eq_true',decide_eq_false_iff_not,List.all_eq_true] at h; obtain ⟨⟨⟨A,_⟩,h3⟩,h4⟩:=h
 cases j:(dgs t).data.toList with
 | nil=>
   have:(dgs t).size=0:=by show (dgs t).data.size=0; rw [← Array.length_toList,j]; rfl
   omega
 | cons c l=>
   rw [j] at h3 h4; have m:=h3 c (by simp); simp [isDig] at m; have i:c≠48:=by simpa using h4
   have s:c.toNat≠48:=fun e=>i (UInt8.toNat_inj.1 e); exact lim_pos _ c l j (by omega) hl
end Go.Proofs.YtnhbmpnhijgpmaaGreatDoor
