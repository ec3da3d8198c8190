import Derived.Test.YtnhbmpnhijgpmaaGreatDoorSimIJp
set_option maxRecDepth 100000
set_option maxHeartbeats 4000000
namespace Go.Proofs.YtnhbmpnhijgpmaaGreatDoor
open Go.ChangeShapes Go.WideShapes Go.ChangeAt Go.RowKit
theorem exactSimplest_any (h1 o1:Bool) (t1:ByteArray) (h2 o2:Bool) (t2:ByteArray) (w:World) (ht1:t1.size≤maxLen) (ht2:t2.size≤maxLen) (h:LT w∧SP w∧NS w) :
 Calls Tryz.prog 4 #[.agg #[.bool h1,.bool o1,.string t1],.agg #[.bool h2,.bool o2,.string t2]] w fun e w'=>e=.returned (.bool true)∧Up w w':=by
 have HS:=Hd h; clear h; obtain ⟨F,G⟩:=exW ((w.alloc (.cells #[.bool h1,.bool o1,.string t1] 33)).alloc (.cells #[.bool h2,.bool o2,.string t2] 33)); have c8:=Hd G; have s:Hid (Up w F):=by unfold Hid; rw [← G]; exact below_al (below_alloc _ _) _
 have d5:Hid (F.heap.size=w.heap.size+2):=by show F.heap.size=_; rw [← G]; simp
 have m:Bx F (w.heap.size) [.bool h1,.bool o1,.string t1]:=by
  rw [← G]; exact (bx_new w _ _).alloc _
 have A:Bx F (w.heap.size+1) [.bool h2,.bool o2,.string t2]:=by
  rw [← G]; have h:=bx_new (w.alloc (.cells #[.bool h1,.bool o1,.string t1] 33)) [.bool h2,.bool o2,.string t2] 33; rw [World.size_alloc] at h; exact h
 have j:Hid (∀ W,Up F W→Bx W (w.heap.size) [.bool h1,.bool o1,.string t1]∧Bx W (w.heap.size+1) [.bool h2,.bool o2,.string t2]):=fun W hW=>⟨m.below m.lt hW,A.below A.lt hW⟩; obtain ⟨k0,k1,k2⟩:=m.k3; clear G m A
 go_enter Tryz.func4,Tryz.ntmps4
 go_upto_region 1 with fail
 rw [c8.o]
 go_wp2_with fail
 refine (szBound_any h1 o1 t1 1048576 _ ht1 (by decide) (by decide)).mono ?_; rintro e w1 ⟨rfl,a6⟩; have Y:=Hd a6; have b9:Hid (Up w w1):=s.o.trans (a6.mono s.o.size); clear a6 k0 k1 k2
 by_cases c1:(1048576:Int)<t1.size
 ·rw [if_pos c1]; clear c1
  go_wp2
  go_ret
  exact ⟨rfl,b9.o⟩
 rw [if_neg c1]; obtain ⟨n1,b3⟩:∃ n1:Int,1048576 - (t1.size:Int)=n1:=⟨_,rfl⟩; have g0:0≤n1:=by omega
 have g1:n1≤1048576:=by omega
 rw [b3]; clear b3 c1; have z1:decide (n1<0)=false:=decide_eq_false (by omega); have b6:=(j.o w1 Y.o).2; obtain ⟨k0,k1,k2⟩:=b6.k3; clear b6
 go_wp2_with fail
 refine (szBound_any h2 o2 t2 n1 _ ht2 g0 g1).mono ?_; rintro e w2 ⟨rfl,a9⟩; have T:Hid (Up F w2):=Y.o.trans (a9.mono Y.o.size); have c6:Hid (Up w w2):=s.o.trans (T.o.mono s.o.size); clear a9 k0 k1 k2
 by_cases c2:n1<(t2.size:Int)
 ·rw [if_pos c2]; clear c2
  go_wp2
  go_ret
  exact ⟨rfl,c6.o⟩
 rw [if_neg c2]; obtain ⟨n2,b4⟩:∃ n2:Int,n1 - (t2.size:Int)=n2:=⟨_,rfl⟩; have g2:0≤n2:=by omega
 rw [b4]; clear b4 c2; have z2:decide (n2<0)=false:=decide_eq_false (by omega)
 go_wp2_with fail
 have O:=j.o w2 T.o; have L:=O.1; have M:=O.2; obtain ⟨k0,k1,k2⟩:=L.k3; obtain ⟨j0,j1,j2⟩:=M.k3; clear O L M
 go_region_held3 (fun W=>W.cell? ⟨w.heap.size,0,none⟩=some (.bool h1)∧W.cell? ⟨w.heap.size,1,none⟩=some (.bool o1)∧W.cell? ⟨w.heap.size,2,none⟩=some (.string t1)∧W.cell? ⟨w.heap.size+1,0,none⟩=some (.bool h2)∧W.cell? ⟨w.heap.size+1,1,none⟩=some (.bool o2)∧W.cell? ⟨w.heap.size+1,2,none⟩=some (.string t2)) (first
  | with_reducible assumption|go_keep) (first
  | (go_at_call_of 12 (Value.string t1)
     refine (toBound_any h1 o1 t1 _).mono ?_; rintro e S ⟨rfl,t⟩; have I:Hid (Up F S):=T.o.trans (((Below.refl _ w2).drew.trans t).mono T.o.size); have i:=j.o S I.o; have a3:=cc3_3 i.1 i.2; clear i; clear t)
  | (go_at_call_of 12 (Value.string t2)
     refine (toBound_any h2 o2 t2 _).mono ?_; rintro e H ⟨rfl,t⟩; have K:Hid (Up F H):=I.o.trans (t.mono I.o.size); have i:=j.o H K.o; have a5:=cc3_3 i.1 i.2; clear i; clear t)
  | (go_at_call 7
     refine (specSimplest_any h1 o1 t1 h2 o2 t2 _ ht1 ht2).mono ?_; rintro e U ⟨u,rfl,hu,t⟩; have HU:=Hd hu; have E:Hid (Up F U):=K.o.trans (t.mono K.o.size); have i:=j.o U E.o; have c9:=cc3_3 i.1 i.2; clear i; clear hu t))
 all_goals
  try simp only [List.getElem_toArray,List.getElem_cons_succ,List.getElem_cons_zero,Act.put,List.setIfInBounds_toArray,List.set_cons_succ,List.set_cons_zero]
  clear k0 k1 k2 j0 j1 j2
  go_wp2_with fail
  have Q:=j.o U E.o; have L:=Q.1; have M:=Q.2; obtain ⟨k0,k1,k2⟩:=L.k3; obtain ⟨j0,j1,j2⟩:=M.k3; clear Q L M
  go_region_held3 (fun W=>W.cell? ⟨w.heap.size,0,none⟩=some (.bool h1)∧W.cell? ⟨w.heap.size,1,none⟩=some (.bool o1)∧W.cell? ⟨w.heap.size,2,none⟩=some (.string t1)∧W.cell? ⟨w.heap.size+1,0,none⟩=some (.bool h2)∧W.cell? ⟨w.heap.size+1,1,none⟩=some (.bool o2)∧W.cell? ⟨w.heap.size+1,2,none⟩=some (.string t2)) (first
   | with_reducible assumption|go_keep) (first
   | (go_at_call_of 12 (Value.string t1)
      refine (toBound_any h1 o1 t1 _).mono ?_; rintro e S ⟨rfl,t⟩; have J:Hid (Up F S):=E.o.trans (((Below.refl _ U).drew.trans t).mono E.o.size); have i:=j.o S J.o; have a3:=cc3_3 i.1 i.2; clear i; clear t)
   | (go_at_call_of 12 (Value.string t2)
      refine (toBound_any h2 o2 t2 _).mono ?_; rintro e H ⟨rfl,t⟩; have D:Hid (Up F H):=J.o.trans (t.mono J.o.size); have i:=j.o H D.o; have a5:=cc3_3 i.1 i.2; clear i; clear t)
   | (go_at_call 6
      have Z:Hid (Up w H):=s.o.trans (D.o.mono s.o.size); refine (implSimplest_any h1 o1 t1 h2 o2 t2 _ ht1 ht2 (HS.o.2.1.below Z.o) (HS.o.2.2.below Z.o) (HS.o.1.below Z.o)).mono ?_; rintro e b7 ⟨v,rfl,hu,t⟩; obtain rfl:u=v:=HU.o.eq hu; have V:Hid (Up F b7):=D.o.trans (t.mono D.o.size); have i:=j.o b7 V.o; have d0:=cc3_3 i.1 i.2; clear i; clear hu t))
  all_goals
   try simp only [List.getElem_toArray,List.getElem_cons_succ,List.getElem_cons_zero,Act.put,List.setIfInBounds_toArray,List.set_cons_succ,List.set_cons_zero]
   go_wp2
   go_ret
   exact ⟨rfl,s.o.trans (V.o.mono s.o.size)⟩
end Go.Proofs.YtnhbmpnhijgpmaaGreatDoor
