import Derived.Test.YtfclfbpjjlinhaaGreatDoorTcO2p
import Derived.Deep.RegionLaw
import Derived.Deep.Cut
set_option maxRecDepth 100000
set_option maxHeartbeats 8000000
namespace Go.Proofs.YtfclfbpjjlinhaaGreatDoor.L
open Go.ChangeShapes Go.WideShapes Go.ChangeAt Go.RowKit
theorem GRow.mem {base:Nat} {W:World} {v:Value} {G:List Nr} (h:GRow base W v G):∃ xs,W.ownsRow base 76 8 v G.length xs∧(∀ i (_:i<G.length),Rz 0 W ((xs.drop (i*8)).take 8) G[i])∧(∀ u∈xs,u.oneCell'=true)∧∀ u∈xs,∀ x,u≠.int .u32 x:=by
 obtain ⟨xs,y,h2⟩:=h.ex; have m:∀ u∈xs,u.oneCell'=true∧∀ x,u≠.int .u32 x:=fun u hu=>by
  obtain ⟨j,I,rfl⟩:=List.getElem_of_mem hu; have hl:xs.length=G.length*8:=y.1; have H:j / 8<G.length:=by omega
  have D:j % 8<8:=Nat.mod_lt _ (by decide); obtain ⟨va,c0,c1,c2,c3,c4,c5,e,J,hb⟩:=(h2 (j / 8) H).ex; obtain ⟨O,K,rfl⟩:=J.form; obtain ⟨M,U,V,pl,T,Y,qn,Z,ql,qc,s⟩:=hb.shape; simp only [List.cons.injEq,and_true] at s; obtain ⟨rfl,rfl,rfl,rfl,rfl,rfl⟩:=s; have h3:=take_at e D; have h4:j / 8*8+j % 8=j:=by omega
  rw [h4,List.getElem?_eq_getElem I] at h3; generalize j % 8=k at h3 D; have E:k=0∨k=1∨k=2∨k=3∨k=4∨k=5∨k=6∨k=7:=by omega
  rcases E with rfl|rfl|rfl|rfl|rfl|rfl|rfl|rfl<;>simp at h3<;>rw [h3]<;>exact ⟨rfl,fun x e=>by cases e⟩
 exact ⟨xs,y,h2,fun u hu=>(m u hu).1,fun u hu=>(m u hu).2⟩
theorem wpList_appAll {ops:Array Oper} {rest:List Oper} {o:Oper} {a:Act} {Q:Exit→Act→World→Prop} {W:World} {base:Nat} {p:Option Addr} {c:Nat} {G:List Nr} (hgd:o.guard=none) (s y:Operand)
 (ho:o.op=.call { callee:=.builtin .append,args:=#[s,y],argTypes:=#[47,47] }) (hs:a.eval s=.slice none 0 0) (n:Nat) (hnl:G.length=n) (hx:a.eval y=.slice p n c) (hown:GRow base W (.slice p n c) G) (h0:0<n) (hl:n≤1000)
 (h:∀ g cap W',GRow W.heap.size W' (.slice (some ⟨g,0,none⟩) n cap) G→Up W W'→wpList Tryz.prog ops Q rest (a.put o.dst (.slice (some ⟨g,0,none⟩) n cap)) W') :
 wpList Tryz.prog ops Q (o::rest) a W:=by
 subst hnl; obtain ⟨Y,D,J,K,M⟩:=info_lr; obtain ⟨O,U,h2,h3,h4⟩:=hown.mem; have I:O.length=G.length*8:=U.1; obtain ⟨T,rfl⟩:∃ g,p=some ⟨g,0,none⟩:=by
  rcases U.2 with ⟨_,e⟩|⟨g,cap,a3,e,_⟩
  ·omega
  cases e; exact ⟨g,rfl⟩
 have m:∀ j u,O[j]? = some u→W.cell? ((⟨T,0,none⟩:Addr).add j)=some u:=U.cells (g:=T) rfl; refine wpList_plain hgd fun _ hK=>?_; obtain ⟨g,cap,W',H,Z,k2,k3,k4⟩:=run_append_lies (P:=Tryz.prog) W 47 o.type W.heap.size 76 Y _ 8 112 Tryz.underlying47 D J K M rfl (by decide) (.slice none 0 0) 0 [] (World.ownsRow_nil _ _ _ _) ⟨T,0,none⟩ G.length c O I m h3 h0 (by unfold maxLen; omega) (by omega) leR _ rfl; rw [Nat.zero_add] at H Z; have hb:Up W W':=(Below.refl _ _).grown k2 leR (fun k e=>by cases e); have V:NoInt W' g:=by
  have h5:=run_append_nil (P:=Tryz.prog) W 47 o.type 76 Y _ Tryz.underlying47 D J ⟨T,0,none⟩ G.length c O (by rw [K]; exact I) m h0 (by omega) (by rw [M]; omega); rw [h5] at H; simp only [Result.ok.injEq,Value.slice.injEq,Option.some.injEq,Addr.mk.injEq,and_true] at H; obtain ⟨⟨rfl,-⟩,rfl⟩:=H; refine noInt_row (heap_alloc_new W.drew _) ?_; intro u E x; rw [Array.toList_append,List.mem_append] at E
  rcases E with E|E
  ·exact h4 u (by simpa using E) x
  exact zeroRow_no _ u E x
 unfold Oper.wp execOp; simp only [ho,resolve,invoke,builtin,Sem.run_bind,Sem.run_pure,Result.andThen_ok,List.map_toArray,List.map_cons,List.map_nil,hs,hx,H]; refine hK _ _ (h g cap W' ⟨⟨O,Z,fun i hi=>(h2 i hi).below hb⟩,fun g' hg'=>by cases hg'; exact V⟩ hb)
theorem l13With_any (base:Nat) (v va c0 c1 c2 c3 c4 c5:Value) (G:List Nr) (f:Nr) (w:World) (h:GRow base w v G) (hz:Rz 0 w [va,.bool f.st,c0,c1,c2,c3,c4,c5] f) (hl:G.length≤1000) :
 Calls Tryz.prog 84 #[v,.agg #[va,.bool f.st,c0,c1,c2,c3,c4,c5]] w fun e w'=>∃ v',e=.returned v'∧GRow w.heap.size w' v' (G++[f])∧Up w w':=by
 have H:=Hd h; obtain ⟨p,c,rfl⟩:=h.form; obtain ⟨u,I⟩:=exW (w.alloc (.cells #[va,.bool f.st,c0,c1,c2,c3,c4,c5] 76)); have m:Hid (Up w u):=by unfold Hid; rw [← I]; exact below_alloc _ _
 have j:Hid (Bx u w.heap.size [va,.bool f.st,c0,c1,c2,c3,c4,c5]):=by unfold Hid; rw [← I]; exact bx_new w _ _
 have T:=Hd I; have U:=Hd (hz.below m.o); have Y:=Hd (h.below m.o); obtain ⟨g4,d0,d1,d2,d3,d4,d5,e,hq,hb⟩:=hz.ex; simp only [List.cons.injEq,and_true] at e; obtain ⟨rfl,-,rfl,rfl,rfl,rfl,rfl,rfl⟩:=e; obtain ⟨pa,ca,rfl⟩:=hq.form; obtain ⟨p0,pn,pp,pl,pc,q0,qn,qa,ql,qc,e2⟩:=hb.shape; simp only [List.cons.injEq,and_true] at e2; obtain ⟨rfl,rfl,rfl,rfl,rfl,rfl⟩:=e2; rw [List.length_map] at T j U ⊢; clear I hq hb hz
 by_cases h0:0<G.length
 ·go_enter Tryz.func84,Tryz.ntmps84
  go_wp2_with (first|rw [T.o]|(at_builtin; refine wpList_appAll (W:=u) (base:=base) (G:=G) rfl _ _ rfl rfl G.length rfl rfl Y.o h0 hl ?_))
  intro g2 k2 w2 V D; have M:=Hd V; have d9:=Hd D; have y:Hid (Up w w2):=m.o.trans (D.mono m.o.size); have Z:=Hd (U.o.below D); have J:=j.o.below j.o.lt D; have x0:=J.cell 0; have x1:=J.cell 1; have x2:=J.cell 2; have x3:=J.cell 3; have x4:=J.cell 4; have x5:=J.cell 5; have x6:=J.cell 6; have x7:=J.cell 7; simp only [List.getElem?_cons_zero,List.getElem?_cons_succ] at x0 x1 x2 x3 x4 x5 x6 x7; clear V D J
  go_wp2_with (at_builtin; refine wpList_appG (W:=w2) (base:=w.heap.size) (G:=G) (f:=f) rfl _ _ rfl rfl ?own ?rz _ rfl ?hH G.length ?hk ?hn ?hb ?_)
  case own=>exact ⟨by obtain ⟨xs,h1,h2⟩:=M.o.ex; exact ⟨xs,own_lower h1 m.o.size,h2⟩,M.o.no⟩
  case rz=>exact Z.o
  case hH=>rfl
  case hk=>rfl
  case hn=>omega
  case hb=>exact y.o.size
  intro g3 k3 w3 E s; have O:=Hd E; have K:Hid (Up w w3):=y.o.grown s y.o.size (fun b hb=>by
   obtain ⟨xs,h1,_⟩:=M.o.ex; have h5:=(h1.lt b hb).1; have h6:=m.o.size; omega)
  clear E s
  go_wp2_with fail
  go_ret
  exact ⟨_,rfl,O.o,K.o⟩
 have hG:G=[]:=List.eq_nil_of_length_eq_zero (by omega); subst hG; clear h0; obtain ⟨x0,x1,x2,x3,x4,x5,x6,x7⟩:u.cell? ⟨w.heap.size,0,none⟩=some (.slice pa f.cs.length ca)∧u.cell? ⟨w.heap.size,1,none⟩=some (.bool f.st)∧u.cell? ⟨w.heap.size,2,none⟩=some (.int .i64 p0)∧u.cell? ⟨w.heap.size,3,none⟩=some (.bool pn)∧u.cell? ⟨w.heap.size,4,none⟩=some (.slice pp pl pc)∧u.cell? ⟨w.heap.size,5,none⟩=some (.int .i64 q0)∧u.cell? ⟨w.heap.size,6,none⟩=some (.bool qn)∧u.cell? ⟨w.heap.size,7,none⟩=some (.slice qa ql qc):=⟨j.o.cell 0,j.o.cell 1,j.o.cell 2,j.o.cell 3,j.o.cell 4,j.o.cell 5,j.o.cell 6,j.o.cell 7⟩; obtain ⟨xs,ho,-⟩:=H.o.ex
 rcases ho.2 with ⟨e,-⟩|⟨g9,a7,a8,e,-⟩
 all_goals
  simp only [Value.slice.injEq] at e; obtain ⟨rfl,-,rfl⟩:=e; clear ho
  go_enter Tryz.func84,Tryz.ntmps84
  go_wp2_with (first|rw [T.o]|(at_builtin; refine wpList_appG (W:=u) (base:=w.heap.size) (v:=.slice none 0 0) (G:=[]) (f:=f) rfl _ _ rfl rfl ?own ?rz _ rfl ?hH 0 ?hk ?hn ?hb ?_))
  case own=>exact GRow.nil _ _
  case rz=>exact U.o
  case hH=>rfl
  case hk=>rfl
  case hn=>omega
  case hb=>exact m.o.size
  intro g3 k3 w3 E s; have O:=Hd E; have K:Hid (Up w w3):=m.o.grown s m.o.size (fun b hb=>by cases hb); clear E s
  go_wp2_with fail
  go_ret
  exact ⟨_,rfl,O.o,K.o⟩
theorem keepsC6 (W:World) (g:Nat) (u0 u1 u2 u3 u4 u5:Value):Keeps g g W ((((((W.setCell ⟨g,0,none⟩ (u0)).setCell ⟨g,1,none⟩ (u1)).setCell ⟨g,2,none⟩ (u2)).setCell ⟨g,3,none⟩ (u3)).setCell ⟨g,4,none⟩ (u4)).setCell ⟨g,5,none⟩ (u5)):=
 Keeps.setCell (Keeps.setCell (Keeps.setCell (Keeps.setCell (Keeps.setCell (Keeps.setCell (Keeps.refl g g W) ⟨g,0,none⟩ u0 (Or.inl rfl)) ⟨g,1,none⟩ u1 (Or.inl rfl)) ⟨g,2,none⟩ u2 (Or.inl rfl)) ⟨g,3,none⟩ u3 (Or.inl rfl)) ⟨g,4,none⟩ u4 (Or.inl rfl)) ⟨g,5,none⟩ u5 (Or.inl rfl)
theorem qn_mk {B:Nat} {w:World} {a1:Int} {n1:Bool} {d1:Option Addr} {l1 c1:Nat} {a2:Int} {n2:Bool} {d2:Option Addr} {l2 c2:Nat} {x y:Int} (h1:NumZ B w (.agg #[.int .i64 a1,.bool n1,.slice d1 l1 c1]) x 1000) (h2:NumZ B w (.agg #[.int .i64 a2,.bool n2,.slice d2 l2 c2]) y 1000):IsQN B w (.agg #[.int .i64 a1,.bool n1,.slice d1 l1 c1,.int .i64 a2,.bool n2,.slice d2 l2 c2]) x y:=⟨_,_,_,_,_,_,_,_,_,_,rfl,h1,h2⟩
theorem l2IntF_any (k:Int) (h1 : -2000000000000000000<k) (h2:k<2000000000000000000) (w:World) :
 Calls Tryz.prog 112 #[.int .i64 k] w fun e w'=>∃ z,e=.returned z∧IsQN w.heap.size w' z k 1∧Up w w':=by
 obtain ⟨Y,m⟩:=exW (w.alloc (.cells #[.int .i64 0,.bool false,.slice none 0 0,.int .i64 0,.bool false,.slice none 0 0] 74)); have a7:=Hd m; have s:Hid (Up w Y):=by unfold Hid; rw [← m]; exact below_alloc _ _
 have d3:Hid (Y.heap.size=w.heap.size+1):=by show Y.heap.size=_; rw [← m]; simp
 have j:Bx Y (w.heap.size) [.int .i64 0,.bool false,.slice none 0 0,.int .i64 0,.bool false,.slice none 0 0]:=by
  rw [← m]; exact bx_new w _ _
 have a3:Hid (∀ W,Up Y W→Bx W (w.heap.size) [.int .i64 0,.bool false,.slice none 0 0,.int .i64 0,.bool false,.slice none 0 0]):=fun W hW=>j.below j.lt hW; clear m j
 go_enter Tryz.func112,Tryz.ntmps112
 go_upto_region 1 with fail
 rw [a7.o]
 go_wp2_with fail
 refine (l1Small_any k _ h1 h2).mono ?_; rintro e w1 ⟨z1,rfl,U,a5⟩; obtain ⟨a1,I,y,E,c1,rfl⟩:=U.shape'; have a8:=Hd (U.mono' (B':=w.heap.size) (n':=1000) s.o.size (by decide)); have M:=Hd a5; clear U a5
 go_wp2_with fail
 refine (l1Small_any 1 _ (by decide) (by decide)).mono ?_; rintro e K ⟨z2,rfl,V,T⟩; obtain ⟨a2,J,D,H,c2,rfl⟩:=V.shape'; have a9:=Hd (V.mono' (B':=w.heap.size) (n':=1000) (Nat.le_trans s.o.size M.o.size) (by decide)); have b3:=Hd (a8.o.below T); have O:Hid (Up Y K):=M.o.trans (T.mono M.o.size); clear V T; have h:=a3.o K O.o; have r0:=h.cell 0; have r1:=h.cell 1; have r2:=h.cell 2; have r3:=h.cell 3; have r4:=h.cell 4; have r5:=h.cell 5; simp only [List.getElem?_cons_zero,List.getElem?_cons_succ] at r0 r1 r2 r3 r4 r5; have d7:=h.frozen 0; have d8:=h.frozen 1; have d9:=h.frozen 2; have e0:=h.frozen 3; have e2:=h.frozen 4; have e3:=h.frozen 5; clear h
 go_wp2
 have a6:=a3.o K O.o; have u:NoInt K (w.heap.size):=noInt_of a6 (by simp); have HK:=keepsC6 K (w.heap.size) (.int .i64 a1) (.bool I) (.slice y E c1) (.int .i64 a2) (.bool J) (.slice D H c2); have b5:=b3.o.keeps u u HK; have b6:=a9.o.keeps u u HK; have b4:Up w ((((((K.setCell ⟨w.heap.size,0,none⟩ (.int .i64 a1)).setCell ⟨w.heap.size,1,none⟩ (.bool I)).setCell ⟨w.heap.size,2,none⟩ (.slice y E c1)).setCell ⟨w.heap.size,3,none⟩ (.int .i64 a2)).setCell ⟨w.heap.size,4,none⟩ (.bool J)).setCell ⟨w.heap.size,5,none⟩ (.slice D H c2)):=(((((((s.o.trans (O.o.mono s.o.size)).setCell (p:=⟨w.heap.size,0,none⟩) (by dsimp only; omega) (.int .i64 a1)).setCell (p:=⟨w.heap.size,1,none⟩) (by dsimp only; omega) (.bool I)).setCell (p:=⟨w.heap.size,2,none⟩) (by dsimp only; omega) (.slice y E c1)).setCell (p:=⟨w.heap.size,3,none⟩) (by dsimp only; omega) (.int .i64 a2)).setCell (p:=⟨w.heap.size,4,none⟩) (by dsimp only; omega) (.bool J)).setCell (p:=⟨w.heap.size,5,none⟩) (by dsimp only; omega) (.slice D H c2)); have Z:Bx ((((((K.setCell ⟨w.heap.size,0,none⟩ (.int .i64 a1)).setCell ⟨w.heap.size,1,none⟩ (.bool I)).setCell ⟨w.heap.size,2,none⟩ (.slice y E c1)).setCell ⟨w.heap.size,3,none⟩ (.int .i64 a2)).setCell ⟨w.heap.size,4,none⟩ (.bool J)).setCell ⟨w.heap.size,5,none⟩ (.slice D H c2)) (w.heap.size) [.int .i64 a1,.bool I,.slice y E c1,.int .i64 a2,.bool J,.slice D H c2]:=((((((a6.set 0 (.int .i64 a1)).set 1 (.bool I)).set 2 (.slice y E c1)).set 3 (.int .i64 a2)).set 4 (.bool J)).set 5 (.slice D H c2)); generalize (((((K.setCell ⟨w.heap.size,0,none⟩ (.int .i64 a1)).setCell ⟨w.heap.size,1,none⟩ (.bool I)).setCell ⟨w.heap.size,2,none⟩ (.slice y E c1)).setCell ⟨w.heap.size,3,none⟩ (.int .i64 a2)).setCell ⟨w.heap.size,4,none⟩ (.bool J)).setCell ⟨w.heap.size,5,none⟩ (.slice D H c2)=W9 at *; have v0:=Z.cell 0; have v1:=Z.cell 1; have v2:=Z.cell 2; have v3:=Z.cell 3; have v4:=Z.cell 4; have v5:=Z.cell 5; simp only [List.getElem?_cons_zero,List.getElem?_cons_succ] at v0 v1 v2 v3 v4 v5; refine bodyPost_ret (v:=.agg #[.int .i64 a1,.bool I,.slice y E c1,.int .i64 a2,.bool J,.slice D H c2]) ?_ rfl ⟨_,rfl,qn_mk b5 b6,b4⟩; simp [results,Tryz.results112,go_sem,v0,v1,v2,v3,v4,v5]
theorem set6_same (xs:List Value) (i:Nat) (h:i*6+6≤xs.length) (a0 a1 a2 a3 a4 a5:Value):(((((((xs.set (i*6) a0).set (i*6+1) a1).set (i*6+2) a2).set (i*6+3) a3).set (i*6+4) a4).set (i*6+5) a5).drop (i*6)).take 6=[a0,a1,a2,a3,a4,a5]:=by
 apply List.ext_getElem?; intro n
 by_cases hn:n<6
 ·rw [List.getElem?_take_of_lt hn,List.getElem?_drop]; have j:n=0∨n=1∨n=2∨n=3∨n=4∨n=5:=by omega
  rcases j with rfl|rfl|rfl|rfl|rfl|rfl
  ·show (_:List Value)[i*6]? = _
   rw [List.getElem?_set_ne (by omega),List.getElem?_set_ne (by omega),List.getElem?_set_ne (by omega),List.getElem?_set_ne (by omega),List.getElem?_set_ne (by omega),List.getElem?_set_self (by omega)]; rfl
  ·rw [List.getElem?_set_ne (by omega),List.getElem?_set_ne (by omega),List.getElem?_set_ne (by omega),List.getElem?_set_ne (by omega),List.getElem?_set_self (by simp; omega)]; rfl
  ·rw [List.getElem?_set_ne (by omega),List.getElem?_set_ne (by omega),List.getElem?_set_ne (by omega),List.getElem?_set_self (by simp; omega)]; rfl
  ·rw [List.getElem?_set_ne (by omega),List.getElem?_set_ne (by omega),List.getElem?_set_self (by simp; omega)]; rfl
  ·rw [List.getElem?_set_ne (by omega),List.getElem?_set_self (by simp; omega)]; rfl
  rw [List.getElem?_set_self (by simp; omega)]; rfl
 rw [List.getElem?_eq_none (by simp; omega),List.getElem?_eq_none (by simp; omega)]
theorem set6_other (xs:List Value) (i j:Nat) (hij:j≠i) (a0 a1 a2 a3 a4 a5:Value):(((((((xs.set (i*6) a0).set (i*6+1) a1).set (i*6+2) a2).set (i*6+3) a3).set (i*6+4) a4).set (i*6+5) a5).drop (j*6)).take 6=(xs.drop (j*6)).take 6:=by
 apply List.ext_getElem?; intro n
 by_cases hn:n<6
 ·rw [List.getElem?_take_of_lt hn,List.getElem?_drop,List.getElem?_take_of_lt hn,List.getElem?_drop,List.getElem?_set_ne (by omega),List.getElem?_set_ne (by omega),List.getElem?_set_ne (by omega),List.getElem?_set_ne (by omega),List.getElem?_set_ne (by omega),List.getElem?_set_ne (by omega)]
 rw [List.getElem?_eq_none (by simp; omega),List.getElem?_eq_none (by simp; omega)]
theorem keep6 {W:World} {g:Nat} (i0 i1 i2 i3 i4 i5:Nat) (c0 c1 c2 c3 c4 c5:Value):W.heap.size≤((((((W.setCell ⟨g,i0,none⟩ c0).setCell ⟨g,i1,none⟩ c1).setCell ⟨g,i2,none⟩ c2).setCell ⟨g,i3,none⟩ c3).setCell ⟨g,i4,none⟩ c4).setCell ⟨g,i5,none⟩ c5).heap.size∧∀ b,b≠g→((((((W.setCell ⟨g,i0,none⟩ c0).setCell ⟨g,i1,none⟩ c1).setCell ⟨g,i2,none⟩ c2).setCell ⟨g,i3,none⟩ c3).setCell ⟨g,i4,none⟩ c4).setCell ⟨g,i5,none⟩ c5).heap[b]? = W.heap[b]?:=
 ⟨by simp,fun b hb=>by rw [Below.heap_setCell _ ⟨g,i5,none⟩ _ _ hb,Below.heap_setCell _ ⟨g,i4,none⟩ _ _ hb,Below.heap_setCell _ ⟨g,i3,none⟩ _ _ hb,Below.heap_setCell _ ⟨g,i2,none⟩ _ _ hb,Below.heap_setCell _ ⟨g,i1,none⟩ _ _ hb,Below.heap_setCell _ ⟨g,i0,none⟩ _ _ hb]⟩
theorem QRow.set {base:Nat} {W:World} {g n cap:Nat} {N:List (Int×Int)} (h:QRow base W (.slice (some ⟨g,0,none⟩) n cap) N) (hn:n=N.length) {i:Nat} (hi:i<N.length) {c0 c1 c2 c3 c4 c5:Value} {x d:Int} (hz:Qz base W [c0,c1,c2,c3,c4,c5] x d (some g)):QRow base ((((((W.setCell ⟨g,i*6,none⟩ c0).setCell ⟨g,i*6+1,none⟩ c1).setCell ⟨g,i*6+2,none⟩ c2).setCell ⟨g,i*6+3,none⟩ c3).setCell ⟨g,i*6+4,none⟩ c4).setCell ⟨g,i*6+5,none⟩ c5) (.slice (some ⟨g,0,none⟩) n cap) (N.set i (x,d)):=by
 subst hn; obtain ⟨m,s,h2⟩:=h; have u:m.length=N.length*6:=s.1; have hk:=keep6 (W:=W) (g:=g) (i*6) (i*6+1) (i*6+2) (i*6+3) (i*6+4) (i*6+5) c0 c1 c2 c3 c4 c5; refine ⟨_,by rw [List.length_set]; exact ((((((s.stored (i*6) c0).1.stored (i*6+1) c1).1.stored (i*6+2) c2).1.stored (i*6+3) c3).1.stored (i*6+4) c4).1.stored (i*6+5) c5).1,fun j hj=>?_⟩; rw [List.length_set] at hj; rw [List.getElem_set]
 by_cases e:i=j
 ·subst e; rw [if_pos rfl,set6_same m i (by omega)]; exact hz.kept hk.1 (fun b _ _ hb=>hk.2 b (fun e=>hb (by rw [e]))) (fun _ _ _ h=>h)
 rw [if_neg e,set6_other m i j (Ne.symm e)]; exact (h2 j hj).kept hk.1 (fun b _ _ hb=>hk.2 b (fun e=>hb (by rw [e]; rfl))) (fun _ _ _ h=>h)
theorem bound_any (wb n col:Nat) (l:List Value) (k0 a:Int) (a0:Int) (an:Bool) (aa:Option Addr) (al ac:Nat) (w:World) (hx:Bx w wb (.int .i64 (n:Nat)::l)) (hn:n≤20) (hc:col<n) (hk1 : -2000000000000000000<k0) (hk2:k0<2000000000000000000) (hz:NumZ 0 w (.agg #[.int .i64 a0,.bool an,.slice aa al ac]) a 1000) :
 Calls Tryz.prog 85 #[.pointer (some ⟨wb,0,none⟩),.int .i64 (col:Nat),.int .i64 k0,.agg #[.int .i64 a0,.bool an,.slice aa al ac]] w fun e w'=>∃ va c0 c1 c2 c3 c4 c5,e=.returned (.agg #[va,.bool false,c0,c1,c2,c3,c4,c5])∧Rz 0 w' [va,.bool false,c0,c1,c2,c3,c4,c5] ⟨(List.replicate n 0).set col k0,false,a⟩∧Up w w':=by
 have HX:=Hd hx; have HZ:=Hd hz; obtain ⟨W1,d3⟩:=exW ((w.alloc (.cells #[.int .i64 a0,.bool an,.slice aa al ac] 72)).alloc (.cells #[.slice none 0 0,.bool false,.int .i64 0,.bool false,.slice none 0 0,.int .i64 0,.bool false,.slice none 0 0] 76)); have i1:Hid (Up w W1):=by unfold Hid; rw [← d3]; exact (below_alloc w _).trans ((below_alloc _ _).mono (below_alloc w _).size)
 have n7:Hid (Bx W1 w.heap.size [.int .i64 a0,.bool an,.slice aa al ac]):=by unfold Hid; rw [← d3]; exact (bx_new w _ _).below (bx_new w _ _).lt (below_alloc _ _)
 have d2:Hid (Bx W1 (w.heap.size+1) [.slice none 0 0,.bool false,.int .i64 0,.bool false,.slice none 0 0,.int .i64 0,.bool false,.slice none 0 0]):=by
  unfold Hid; have e:(w.alloc (.cells #[.int .i64 a0,.bool an,.slice aa al ac] 72)).heap.size=w.heap.size+1:=by simp
  rw [← d3,← e]; exact bx_new _ _ _
 have k7:=Hd d3; obtain ⟨y0,y1,y2⟩:=n7.o.c3; have j9:=Hd (l2OfZ_any 0 a0 an aa al ac a W1 (Nat.zero_le _) (HZ.o.below i1.o)); clear d3 hx hz
 go_enter Tryz.func85,Tryz.ntmps85
 go_wp2_with (rw [k7.o])
 refine j9.o.mono ?_; rintro e Z ⟨z,rfl,j2,d6⟩; obtain ⟨E,M,H,J,I,O,Y,T,V,U,rfl,-,-⟩:=id j2; obtain ⟨W3,g9⟩:=exW (Z.alloc (.cells #[.slice none 0 0,.bool false,.int .i64 E,.bool M,.slice H J I,.int .i64 O,.bool Y,.slice T V U] 76)); have a9:Up Z W3:=by rw [← g9]; exact below_alloc _ _
 have j1:Bx W3 Z.heap.size (.slice none 0 0::[.bool false,.int .i64 E,.bool M,.slice H J I,.int .i64 O,.bool Y,.slice T V U]):=by rw [← g9]; exact bx_new Z _ _
 have i2:Hid (Up w Z):=i1.o.trans (d6.mono i1.o.size); have i3:Hid (Up w W3):=i2.o.trans (a9.mono i2.o.size); have m8:Hid (Qz 0 W3 [.int .i64 E,.bool M,.slice H J I,.int .i64 O,.bool Y,.slice T V U] a 1 (some Z.heap.size)):=(qz_mk j2 (some Z.heap.size) (fun b _ hlt h=>by injection h with h; omega)).below a9; have g8:Hid (Bx W3 (w.heap.size+1) [.slice none 0 0,.bool false,.int .i64 0,.bool false,.slice none 0 0,.int .i64 0,.bool false,.slice none 0 0]):=(d2.o.below d2.o.lt d6).below (d2.o.below d2.o.lt d6).lt a9; have h8:Hid (RS w W3 Z.heap.size (.slice none 0 0) [.bool false,.int .i64 E,.bool M,.slice H J I,.int .i64 O,.bool Y,.slice T V U] [] W3):=⟨j1,QRow.nil _ _,fun _ _ _=>rfl,leR,i3.o⟩; have k8:=Hd g9; have i0:Z.heap.size<W3.heap.size:=j1.lt; have m5:Hid (w.heap.size+1<Z.heap.size):=by unfold Hid; have h1:=d2.o.lt; have h2:=d6.size; omega
 clear j2 d6 g9 a9 j1 y0 y1 y2 j9
 go_wp2_with (rw [k8.o])
 go_loopw [10] (fun iv wr=>∃ (k:Nat) (vq:Value),k≤n∧iv=.int .i64 (k:Nat)∧RS w W3 Z.heap.size vq [.bool false,.int .i64 E,.bool M,.slice H J I,.int .i64 O,.bool Y,.slice T V U] (List.replicate k (0,1)) wr) (fun iv _=>n - (intOf iv).toNat)
 case atStart=>exact ⟨0,_,Nat.zero_le _,rfl,h8.o⟩
 case round=>
  rename World=>wi
  clear h8 k8 k7; obtain ⟨k,vq,hk,rfl,hR⟩:=hrel; have s:=Hd hR; have x0:wi.cell? ⟨wb,0,none⟩=some (.int .i64 (n:Nat)):=(s.o.bel.cell (p:=⟨wb,0,none⟩) HX.o.lt).trans (HX.o.cell 0); obtain ⟨pq,cq,rfl⟩:=hR.row.form; have a6:(List.replicate k ((0:Int),(1:Int))).length=k:=List.length_replicate ..; rw [a6] at s hR; have HLK:=Hd a6; have c9:Hid (∀ b,(Value.slice pq k cq).ownBlock=some b→W3.heap.size≤b∧b<wi.heap.size):=fun b e=>by
   obtain ⟨xs,hr,_⟩:=hR.row; exact hr.lt b e
  have m6:Hid ((Value.slice pq k cq).ownBlock≠some Z.heap.size):=fun e=>Nat.lt_irrefl _ (Nat.lt_of_lt_of_le i0 (c9.o _ e).1); have q0:=hR.box.cell 0; simp only [List.getElem?_cons_zero] at q0
  by_cases q1:k<n
  ·have n9:(k:Int)<(n:Int):=by omega
   have i7:Hid (∀ W,Calls Tryz.prog 112 #[.int .i64 0] W fun e w'=>∃ z,e=.returned z∧IsQN W.heap.size w' z 0 1∧Up W w'):=fun W=>l2IntF_any 0 (by decide) (by decide) W; have n4:Hid (List.replicate (k+1) ((0:Int),(1:Int))=List.replicate k (0,1)++[(0,1)]):=List.replicate_succ' ..; clear hR a6
   go_wp2_with fail
   go_region_law
    (first
      | (refine step_appQ (W:=w3) (base:=W3.heap.size) (v:=.slice pq k cq) (N:=List.replicate k (0,1)) (by rfl) _ _ (by rfl) (by rfl) i8.o k1.o _ (by rfl) (by rfl) k HLK.o (by omega) n3.o ?_; intro g5 c5 w5 e0 p2 d8; have i6:=Hd e0; have i4:=Hd d8; have h0:=bx_grown i9.o d8 m6.o; have d1:=h0.cell 0; have e1:=h0.frozen 0; simp only [List.getElem?_cons_zero] at d1; have n6:=Hd h0; clear e0 d8 h0)
      | (go_simp; refine (i7.o _).mono ?_; rintro e w3 ⟨z,rfl,hz,a3⟩; have y:Hid (Up wi w3):=⟨a3.os,a3.tape,a3.output,a3.size,a3.block⟩; obtain ⟨e2,e6,e3,e5,e4,e7,f9,e8,f7,e9,rfl,-,-⟩:=id hz; have k1:Hid (Qz W3.heap.size w3 [.int .i64 e2,.bool e6,.slice e3 e5 e4,.int .i64 e7,.bool f9,.slice e8 f7 e9] 0 1 (Value.slice pq k cq).ownBlock):=(qz_mk hz _ (fun b h1 _ h3=>Nat.lt_irrefl _ (Nat.lt_of_lt_of_le (c9.o b h3).2 h1))).mono s.o.size; have i8:Hid (QRow W3.heap.size w3 (.slice pq k cq) (List.replicate k (0,1))):=s.o.row.below y.o; have n3:Hid (W3.heap.size≤w3.heap.size):=Nat.le_trans s.o.size y.o.size; have i9:=Hd (s.o.box.below s.o.box.lt y.o); have d0:w3.cell? ⟨Z.heap.size,0,none⟩=some (.slice pq k cq):=i9.o.cell 0; have q3:Z.heap.size<w3.heap.size:=i9.o.lt; clear hz a3; go_wp2_with fail))
   all_goals
    go_wp2_with fail
    refine ⟨⟨k+1,.slice (some ⟨g5,0,none⟩) (k+1) c5,by omega,by go_num,?_⟩,by simp [intOf]; omega⟩; rw [n4.o]; have a9:=s.o.bel.trans (y.o.mono s.o.bel.size); refine ⟨n6.o.set 0 _,i6.o.low ⟨Z.heap.size,0,none⟩ _ i0,fun b h1 h2=>?_,?_,?_⟩
    ·have h4:=s.o.size; have h5:=y.o.size; rw [Below.heap_setCell _ ⟨Z.heap.size,0,none⟩ _ _ h2,i4.o.block b (by omega) (fun e=>by have:=(c9.o b e.symm).1; omega),y.o.block b (by omega)]; exact s.o.same b h1 h2
    ·have h4:=s.o.size; have h5:=y.o.size; have h6:=i4.o.size; simp; omega
    ·exact (a9.grown i4.o a9.size (fun k e=>by have h1:=(c9.o k e).1; have h2:=i3.o.size; omega)).setCell (p:=⟨Z.heap.size,0,none⟩) i2.o.size _
  ·have l2:k=n:=by omega
   have n9:¬ (k:Int)<(n:Int):=by omega
   have i5:=Hd l2; clear hR a6 l2; obtain ⟨g,rfl⟩:∃ g,pq=some ⟨g,0,none⟩:=by
    obtain ⟨xs,hr,_⟩:=s.o.row; rw [HLK.o] at hr
    rcases hr.2 with ⟨_,e⟩|⟨g,cap,p5,e,_⟩
    ·have:=i5.o; omega
    ·cases e; exact ⟨g,rfl⟩
   have hg:W3.heap.size≤g∧g<wi.heap.size:=c9.o g rfl; have HG:=Hd hg; have n8:col<k:=by have:=i5.o; omega
   have p0:(col:Int)<(k:Int):=by omega
   have k5:Hid (∀ W,Up wi W→W.cell? ⟨Z.heap.size,0,none⟩=some (.slice (some ⟨g,0,none⟩) k cq)):=fun W hW=>(s.o.box.below s.o.box.lt hW).cell 0; have i7:Hid (∀ W,Calls Tryz.prog 112 #[.int .i64 k0] W fun e w'=>∃ z,e=.returned z∧IsQN W.heap.size w' z k0 1∧Up W w'):=fun W=>l2IntF_any k0 hk1 hk2 W; clear hg
   go_wp2_with fail
   refine wrh 7 rfl (S:=fun W=>W.cell? ⟨Z.heap.size,0,none⟩=some (.slice (some ⟨g,0,none⟩) k cq)) (by kernel_rfl) (k5.o _ (Below.refl _ _).drew) (fun hHeld=>?_); refine tk 0 28 (v:=?_) rfl rfl (by kernel_rfl) (fun _ _ _ h=>h) (Or.inl ⟨by rfl,?_⟩) (by assumption) ?_
   rotate_left
   ·(intro w a5; (try dsimp only at a5); go_simp; (try with_reducible rfl))
   try simp only [Act.put,List.setIfInBounds_toArray,List.set_cons_zero,List.set_cons_succ]
   refine tk 1 29 (v:=?_) rfl rfl (by kernel_rfl) (fun _ _ _ h=>h) (Or.inl ⟨by rfl,?_⟩) (by assumption) ?_
   rotate_left
   ·(intro w a5; (try dsimp only at a5); go_simp; (try with_reducible rfl))
   try simp only [Act.put,List.setIfInBounds_toArray,List.set_cons_zero,List.set_cons_succ]
   refine tk 2 30 (v:=?_) rfl rfl (by kernel_rfl) (fun _ _ _ h=>h) (Or.inl ⟨by rfl,?_⟩) (by assumption) ?_
   rotate_left
   ·(intro w a5; (try dsimp only at a5); go_simp; (try with_reducible rfl))
   try simp only [Act.put,List.setIfInBounds_toArray,List.set_cons_zero,List.set_cons_succ]
   refine tk 3 31 (v:=?_) rfl rfl (by kernel_rfl) (fun _ _ _ h=>h) (Or.inl ⟨by rfl,?_⟩) (by assumption) ?_
   rotate_left
   ·(intro w a5; (try dsimp only at a5); go_simp; (try with_reducible rfl))
   try simp only [Act.put,List.setIfInBounds_toArray,List.set_cons_zero,List.set_cons_succ]
   refine wpAnyH_ready (rs:=[4]) (by kernel_rfl) (by simp) ?_; refine AllReadyH.cons rfl (fun K hK=>?_) AllReadyH.nil
   go_simp
   go_at_call 112
   refine (i7.o _).mono ?_; rintro e w5 ⟨z,rfl,j3,h9⟩; have a8:Hid (Up wi w5):=(Below.refl _ _).drew.trans h9; obtain ⟨e2,e6,e3,e5,e4,e7,f9,e8,f7,e9,rfl,-,-⟩:=id j3; have m9:Hid (Qz W3.heap.size w5 [.int .i64 e2,.bool e6,.slice e3 e5 e4,.int .i64 e7,.bool f9,.slice e8 f7 e9] k0 1 (some g)):=(qz_mk j3 (some g) (fun b h1 _ h3=>by injection h3 with h3; have h6:=HG.o.2; have h7:wi.heap.size≤b:=h1; omega)).mono s.o.size; clear j3 h9
   go_wp2_with fail
   refine hK.out _ _ (k5.o _ a8.o) (fun hHeld4=>?_); clear hK K
   try simp only [Act.put,List.setIfInBounds_toArray,List.set_cons_zero,List.set_cons_succ]
   refine tk 5 33 (v:=?_) rfl rfl (by kernel_rfl) (fun _ _ _ h=>h) (Or.inl ⟨by rfl,?_⟩) (by assumption) ?_
   rotate_left
   ·(intro w a5; (try dsimp only at a5); go_simp; (try with_reducible rfl))
   try simp only [Act.put,List.setIfInBounds_toArray,List.set_cons_zero,List.set_cons_succ]
   have l3:=s.o.row.below a8.o; have i6:=Hd l3; obtain ⟨xs,m,-⟩:=l3; rw [HLK.o] at m; have f0:=m.frozenAt (col*6); have f1:=m.frozenAt (col*6+1); have f2:=m.frozenAt (col*6+2); have f3:=m.frozenAt (col*6+3); have f4:=m.frozenAt (col*6+4); have f5:=m.frozenAt (col*6+5); have q2:xs.length=k*6:=m.1; obtain ⟨o0,t0⟩:=row_at m (col*6) (by omega); obtain ⟨o1,t1⟩:=row_at m (col*6+1) (by omega); obtain ⟨o2,t2⟩:=row_at m (col*6+2) (by omega); obtain ⟨o3,t3⟩:=row_at m (col*6+3) (by omega); obtain ⟨o4,t4⟩:=row_at m (col*6+4) (by omega); obtain ⟨o5,t5⟩:=row_at m (col*6+5) (by omega); obtain ⟨WS,d4⟩:=exW ((((((w5.setCell ⟨g,col*6,none⟩ (.int .i64 e2)).setCell ⟨g,col*6+1,none⟩ (.bool e6)).setCell ⟨g,col*6+2,none⟩ (.slice e3 e5 e4)).setCell ⟨g,col*6+3,none⟩ (.int .i64 e7)).setCell ⟨g,col*6+4,none⟩ (.bool f9)).setCell ⟨g,col*6+5,none⟩ (.slice e8 f7 e9)); have k9:=Hd d4; have d9:=keep6 (W:=w5) (g:=g) (col*6) (col*6+1) (col*6+2) (col*6+3) (col*6+4) (col*6+5) (.int .i64 e2) (.bool e6) (.slice e3 e5 e4) (.int .i64 e7) (.bool f9) (.slice e8 f7 e9); rw [d4] at d9; have n1:Hid (QRow W3.heap.size WS (.slice (some ⟨g,0,none⟩) k cq) ((List.replicate k (0,1)).set col (k0,1))):=by unfold Hid; rw [← d4]; exact i6.o.set HLK.o.symm (by rw [HLK.o]; exact n8) m9.o
   have b9:Sol g w5 WS:=⟨d9.1,fun b _ hb=>d9.2 b hb⟩; have l1:Bx WS Z.heap.size (.slice (some ⟨g,0,none⟩) k cq::[.bool false,.int .i64 E,.bool M,.slice H J I,.int .i64 O,.bool Y,.slice T V U]):=(s.o.box.below s.o.box.lt a8.o).solTo b9 (by have:=HG.o.1; omega); have l4:Bx WS (w.heap.size+1) [.slice none 0 0,.bool false,.int .i64 0,.bool false,.slice none 0 0,.int .i64 0,.bool false,.slice none 0 0]:=by
    have h1:Bx wi (w.heap.size+1) [.slice none 0 0,.bool false,.int .i64 0,.bool false,.slice none 0 0,.int .i64 0,.bool false,.slice none 0 0]:=by
     have hlt:=g8.o.lt; obtain ⟨ty,hh⟩:=g8.o; exact ⟨ty,(s.o.same _ hlt (by have:=m5.o; omega)).trans hh⟩
    exact (h1.below h1.lt a8.o).solTo b9 (by have h2:=HG.o.1; have h3:=g8.o.lt; omega)
   have n0:Hid (Qz 0 WS [.int .i64 E,.bool M,.slice H J I,.int .i64 O,.bool Y,.slice T V U] a 1 (some Z.heap.size)):=m8.o.kept (Nat.le_trans (Nat.le_trans s.o.size a8.o.size) b9.size) (fun b _ hlt hb=>by
    have hne:b≠Z.heap.size:=fun e=>hb (by rw [e]); have h4:=s.o.size; rw [d9.2 b (by have:=HG.o.1; omega),a8.o.block b (by omega),s.o.same b hlt hne]) (fun _ _ _ h=>h)
   have l8:Hid (Up w WS):=by
    have h1:=s.o.bel.trans (a8.o.mono s.o.bel.size); have c7:w.heap.size≤g:=by have h2:=HG.o.1; have h3:=i3.o.size; omega
    unfold Hid; rw [← d4]; exact (((((h1.setCell (p:=⟨g,col*6,none⟩) c7 _).setCell (p:=⟨g,col*6+1,none⟩) c7 _).setCell (p:=⟨g,col*6+2,none⟩) c7 _).setCell (p:=⟨g,col*6+3,none⟩) c7 _).setCell (p:=⟨g,col*6+4,none⟩) c7 _).setCell (p:=⟨g,col*6+5,none⟩) c7 _
   have j8:=Hd l1; have D:=Hd l4; have m7:Hid (g≠w.heap.size+1):=by unfold Hid; have h2:=HG.o.1; have h3:=g8.o.lt; omega
   clear d4 d9 b9 l1 l4 m; refine wpAnyH_ready (rs:=[6]) (by kernel_rfl) (by simp) ?_; refine AllReadyH.cons rfl (fun K hK=>?_) AllReadyH.nil
   go_simp
   go_wp2_with (rw [k9.o])
   try rw [k9.o]
   refine hK.out _ _ (j8.o.cell 0) (fun hHeld6=>?_); clear hK K f0 f1 f2 f3 f4 f5 t0 t1 t2 t3 t4 t5
   try simp only [Act.put,List.setIfInBounds_toArray,List.set_cons_zero,List.set_cons_succ]
   refine wpAnyH_done (by kernel_rfl) ?_ _; obtain ⟨b0,b1,b2,b3,b4,b5,b6,b7⟩:=j8.o.c8; obtain ⟨r0,r1,r2,r3,r4,r5,r6,r7⟩:=D.o.c8; have g0:=D.o.frozen 0; have g1:=D.o.frozen 1; have g2:=D.o.frozen 2; have g3:=D.o.frozen 3; have g4:=D.o.frozen 4; have g5:=D.o.frozen 5; have g6:=D.o.frozen 6; have g7:=D.o.frozen 7; obtain ⟨WT,d5⟩:=exW ((((((((WS.setCell ⟨w.heap.size+1,0,none⟩ (.slice (some ⟨g,0,none⟩) k cq)).setCell ⟨w.heap.size+1,1,none⟩ (.bool false)).setCell ⟨w.heap.size+1,2,none⟩ (.int .i64 E)).setCell ⟨w.heap.size+1,3,none⟩ (.bool M)).setCell ⟨w.heap.size+1,4,none⟩ (.slice H J I)).setCell ⟨w.heap.size+1,5,none⟩ (.int .i64 O)).setCell ⟨w.heap.size+1,6,none⟩ (.bool Y)).setCell ⟨w.heap.size+1,7,none⟩ (.slice T V U)); have l0:=Hd d5; have d7:But (w.heap.size+1) WS WT:=by
    have o6:NoInt WS (w.heap.size+1):=bx_noInt D.o (by intro v hv x; simp at hv; rcases hv with rfl|rfl|rfl|rfl|rfl|rfl|rfl|rfl<;>simp); rw [← d5]; exact ⟨by simp,fun b _ hb=>by rw [Below.heap_setCell _ ⟨w.heap.size+1,7,none⟩ _ _ hb,Below.heap_setCell _ ⟨w.heap.size+1,6,none⟩ _ _ hb,Below.heap_setCell _ ⟨w.heap.size+1,5,none⟩ _ _ hb,Below.heap_setCell _ ⟨w.heap.size+1,4,none⟩ _ _ hb,Below.heap_setCell _ ⟨w.heap.size+1,3,none⟩ _ _ hb,Below.heap_setCell _ ⟨w.heap.size+1,2,none⟩ _ _ hb,Below.heap_setCell _ ⟨w.heap.size+1,1,none⟩ _ _ hb,Below.heap_setCell _ ⟨w.heap.size+1,0,none⟩ _ _ hb],o6⟩
   have n5:Hid (Bx WT (w.heap.size+1) [.slice (some ⟨g,0,none⟩) k cq,.bool false,.int .i64 E,.bool M,.slice H J I,.int .i64 O,.bool Y,.slice T V U]):=by unfold Hid; rw [← d5]; exact (((((((D.o.set 0 _).set 1 _).set 2 _).set 3 _).set 4 _).set 5 _).set 6 _).set 7 _
   have l9:Hid (Up w WT):=by unfold Hid; rw [← d5]; exact put8 (P:=fun W=>Up w W) (fun W j u h=>h.setCell (p:=⟨w.heap.size+1,j,none⟩) (Nat.le_succ _) u) l8.o _ _ _ _ _ _ _ _ _ _ _ _ _ _ _ _
   have n2:Hid (Rz 0 WT [.slice (some ⟨g,0,none⟩) k cq,.bool false,.int .i64 E,.bool M,.slice H J I,.int .i64 O,.bool Y,.slice T V U] ⟨(List.replicate n 0).set col k0,false,a⟩):=by
    refine ⟨_,_,_,_,_,_,_,rfl,?_,?_⟩
    ·have e:((List.replicate n (0:Int)).set col k0).map (fun x=>(x,(1:Int)))=(List.replicate k ((0:Int),(1:Int))).set col (k0,1):=by rw [List.map_set,List.map_replicate,i5.o]
     rw [e]; exact (n1.o.but d7 (fun h=>m7.o (by simpa [Value.ownBlock] using h))).mono (Nat.zero_le _)
    ·exact (n0.o.but d7).kept leR (fun _ _ _ _=>rfl) (fun _ _ _ _ h=>by cases h)
   clear d5 d7
   go_wp2_with (rw [l0.o])
   try rw [l0.o]
   obtain ⟨v0,v1,v2,v3,v4,v5,v6,v7⟩:=n5.o.c8; refine bodyPost_ret (v:=.agg #[.slice (some ⟨g,0,none⟩) k cq,.bool false,.int .i64 E,.bool M,.slice H J I,.int .i64 O,.bool Y,.slice T V U]) ?_ rfl ⟨_,_,_,_,_,_,_,rfl,n2.o,l9.o⟩; simp [results,Tryz.results85,go_sem,v0,v1,v2,v3,v4,v5,v6,v7]
theorem qz_none {B:Nat} {W:World} {a b c d e f:Value} {x y:Int} (h:IsQN B W (.agg #[a,b,c,d,e,f]) x y):Qz 0 W [a,b,c,d,e,f] x y none:=(qz_mk h none (fun _ _ _ h=>by cases h)).mono (Nat.zero_le _)
theorem Qz.off {B:Nat} {W:World} {cs:List Value} {x y:Int} {o:Option Nat} (h:Qz B W cs x y o) {g:Nat} (hn:NoInt W g):Qz B W cs x y (some g):=by
 obtain ⟨m,D,s,pl,u,E,K,H,J,I,e,j,h2,h3,h4⟩:=h.ex; exact ⟨m,D,s,pl,u,E,K,H,J,I,e,j,h2,fun a e1 e2 e3=>numZ_not j hn a e1 e2 (by injection e3 with e3; exact e3.symm),fun a e1 e2 e3=>numZ_not h2 hn a e1 e2 (by injection e3 with e3; exact e3.symm)⟩
theorem Qz.on {B:Nat} {W:World} {cs:List Value} {x y:Int} {o:Option Nat} (h:Qz B W cs x y o):Qz B W cs x y none:=by
 obtain ⟨m,D,s,pl,u,E,K,H,J,I,e,j,h2,h3,h4⟩:=h.ex; exact ⟨m,D,s,pl,u,E,K,H,J,I,e,j,h2,(fun a _ _ e3=>by cases e3),(fun a _ _ e3=>by cases e3)⟩
theorem bx6_no {W:World} {g:Nat} {cs:List Value} {x y:Int} {o:Option Nat} (h:Bx W g cs) (hq:Qz 0 W cs x y o):NoInt W g:=by
 obtain ⟨m,D,s,pl,u,E,K,H,J,I,rfl⟩:=hq.shape; exact bx_noInt h (by intro v j x; simp at j; rcases j with rfl|rfl|rfl|rfl|rfl|rfl<;>simp)
theorem But.sixAt {W:World} {g:Nat} (h:NoInt W g) (i0 i1 i2 i3 i4 i5:Nat) (c0 c1 c2 c3 c4 c5:Value):But g W ((((((W.setCell ⟨g,i0,none⟩ c0).setCell ⟨g,i1,none⟩ c1).setCell ⟨g,i2,none⟩ c2).setCell ⟨g,i3,none⟩ c3).setCell ⟨g,i4,none⟩ c4).setCell ⟨g,i5,none⟩ c5):=
 ⟨(keep6 i0 i1 i2 i3 i4 i5 c0 c1 c2 c3 c4 c5).1,fun b _ hb=>(keep6 i0 i1 i2 i3 i4 i5 c0 c1 c2 c3 c4 c5).2 b hb,h⟩
theorem low_int {x p q:Int} (h:IsLow x 1 p q):p=x∧q=1:=isLow_unique h (isLow_one (by decide) (by simp))
theorem l2AddI_any (za zd:Value) (x1 x2:Int) (w:World) (ha:IsQN 0 w za x1 1) (hd:IsQN 0 w zd x2 1) (h1:x1.natAbs<lb 300) (h2:x2.natAbs<lb 300) :
 Calls Tryz.prog 113 #[za,zd] w fun e w'=>∃ z,e=.returned z∧IsQN 0 w' z (x1+x2) 1∧Up w w':=by
 have h:(1:Int).natAbs<lb 300:=lb_one 300 (by decide); refine (l2Add_any 0 za zd x1 1 x2 1 w (Nat.zero_le _) ha hd ⟨h1,h,h2,h⟩ (by decide)).mono ?_; rintro e w' ⟨z,p,q,rfl,j,hl,hb⟩; rw [Int.mul_one,Int.mul_one,Int.mul_one] at hl; obtain ⟨rfl,rfl⟩:=low_int hl; exact ⟨z,rfl,j,hb⟩
theorem l2MulI_any (za zd:Value) (x1 x2:Int) (w:World) (ha:IsQN 0 w za x1 1) (hd:IsQN 0 w zd x2 1) (h1:x1.natAbs<lb 300) (h2:x2.natAbs<lb 300) :
 Calls Tryz.prog 114 #[za,zd] w fun e w'=>∃ z,e=.returned z∧IsQN 0 w' z (x1*x2) 1∧Up w w':=by
 have h:(1:Int).natAbs<lb 300:=lb_one 300 (by decide); refine (l2Mul_any 0 za zd x1 1 x2 1 w (Nat.zero_le _) ha hd ⟨h1,h,h2,h⟩ (by decide)).mono ?_; rintro e w' ⟨z,p,q,rfl,j,hl,hb⟩; rw [Int.mul_one] at hl; obtain ⟨rfl,rfl⟩:=low_int hl; exact ⟨z,rfl,j,hb⟩
theorem lb_0 (n:Nat):0<lb n:=Nat.pow_pos (by decide)
theorem lb_s (n:Nat):lb (n+1)=1000000000*lb n:=(Nat.pow_succ ..).trans (Nat.mul_comm ..)
theorem lb_fifty {a k:Nat} (hk:k≤1000) (h:a≤k*lb 286):a<lb 300:=by
 refine lb_le 287 300 (by decide) ?_; have j:lb 287=1000000000*lb 286:=lb_s 286
 have h2:0<lb 286:=lb_0 286
 have h3:k*lb 286≤1000*lb 286:=Nat.mul_le_mul_right _ hk; omega
theorem addC_le {G:List Nr} {M:List Int} {col:Nat} (hM:∀ k,(M.getD k 0).natAbs<lb 280) (hG:∀ k,((G.getD k nr0).cs.getD col 0).natAbs<lb 6):∀ k,(addC G M col k).natAbs≤k*lb 286
 | 0=>by simp [addC]
 | k+1=>by
   have h:=addC_le hM hG k
   have h2:=lb_mul 280 6 (hM k) (hG k)
   rw [← Int.natAbs_mul] at h2
   have h3:=Int.natAbs_add_le (addC G M col k) (M.getD k 0*(G.getD k nr0).cs.getD col 0)
   rw [Nat.succ_mul]
   show (addC G M col k+M.getD k 0*(G.getD k nr0).cs.getD col 0).natAbs≤_
   have h4:lb (280+6)=lb 286:=rfl
   omega
theorem addD_le {G:List Nr} {M:List Int} (hM:∀ k,(M.getD k 0).natAbs<lb 280) (hG:∀ k,(G.getD k nr0).bd.natAbs<lb 6):∀ k,(addD G M k).natAbs≤k*lb 286
 | 0=>by simp [addD]
 | k+1=>by
   have h:=addD_le hM hG k
   have h2:=lb_mul 280 6 (hM k) (hG k)
   rw [← Int.natAbs_mul] at h2
   have h3:=Int.natAbs_add_le (addD G M k) (M.getD k 0*(G.getD k nr0).bd)
   rw [Nat.succ_mul]
   show (addD G M k+M.getD k 0*(G.getD k nr0).bd).natAbs≤_
   have h4:lb (280+6)=lb 286:=rfl
   omega
theorem madeQ_at (n i d:Nat) (hi:i<n) (hd:d<6):(madeCells (Value.cells (.agg #[.int .i64 0,.bool false,.slice none 0 0,.int .i64 0,.bool false,.slice none 0 0])) (n*6)).toList[i*6+d]? = ([.int .i64 0,.bool false,.slice none 0 0,.int .i64 0,.bool false,.slice none 0 0]:List Value)[d]? := by
 have h:i*6+d<n*6:=by omega
 have e1:(i*6+d) % 6=d:=by omega
 have j:d=0∨d=1∨d=2∨d=3∨d=4∨d=5:=by omega
 rcases j with rfl|rfl|rfl|rfl|rfl|rfl<;>(try simp only [Nat.add_zero] at h e1 ⊢)<;>simp [madeCells,Value.cells,h,e1]
theorem numZ_null (B:Nat) (W:World):NumZ B W (.agg #[.int .i64 0,.bool false,.slice none 0 0]) 0 1000:=⟨false,[],⟨(fun _ h=>by cases h),(fun h=>absurd rfl h),.inr ⟨Nat.zero_le _,rfl⟩⟩,rfl,Nat.zero_le _⟩
theorem QRow.zero {base:Nat} {W:World} {v:Value} {n:Nat} (h:W.ownsRow base 74 6 v n (madeCells (Value.cells (.agg #[.int .i64 0,.bool false,.slice none 0 0,.int .i64 0,.bool false,.slice none 0 0])) (n*6)).toList):QRow base W v (List.replicate n (0,0)):=by
 refine ⟨_,by rw [List.length_replicate]; exact h,fun i hi=>?_⟩; rw [List.length_replicate] at hi; rw [List.getElem_replicate]; have e:((madeCells (Value.cells (.agg #[.int .i64 0,.bool false,.slice none 0 0,.int .i64 0,.bool false,.slice none 0 0])) (n*6)).toList.drop (i*6)).take 6=[.int .i64 0,.bool false,.slice none 0 0,.int .i64 0,.bool false,.slice none 0 0]:=by
  apply List.ext_getElem?; intro d
  by_cases j:d<6
  ·rw [List.getElem?_take_of_lt j,List.getElem?_drop,madeQ_at n i d hi j]
  rw [List.getElem?_eq_none (by simp; omega),List.getElem?_eq_none (by simp; omega)]
 rw [e]; exact ⟨_,_,_,_,_,_,_,_,_,_,rfl,numZ_null _ _,numZ_null _ _,(fun a e=>by cases e),(fun a e=>by cases e)⟩
theorem qrow_no {base:Nat} {W:World} {g n:Nat} {N:List (Int×Int)} (h:QRow base W (.slice (some ⟨g,0,none⟩) n n) N) (hn:n=N.length):NoInt W g:=by
 subst hn; obtain ⟨I,E,h2⟩:=h; have O:I.length=N.length*6:=E.1
 rcases E.2 with ⟨e,_⟩|⟨T,cap,s,e,_,J,_,_,D,m⟩
 ·cases e
 simp only [Value.slice.injEq,Option.some.injEq,Addr.mk.injEq,and_true,true_and] at e; obtain ⟨rfl,rfl⟩:=e; refine noInt_row J fun u hu x=>?_; have y:s.toList=I:=by rw [← m,List.take_of_length_le (by rw [Array.length_toList,D]; exact leR)]
 rw [y] at hu; obtain ⟨j,M,rfl⟩:=List.getElem_of_mem hu; have K:j / 6<N.length:=by omega
 have H:j % 6<6:=Nat.mod_lt _ (by decide); obtain ⟨U,Z,V,pl,Y,q0,qn,qa,ql,qc,e⟩:=(h2 (j / 6) K).shape; have h3:=take_at e H; have h4:j / 6*6+j % 6=j:=by omega
 rw [h4,List.getElem?_eq_getElem M] at h3; generalize j % 6=k at h3 H; have y:k=0∨k=1∨k=2∨k=3∨k=4∨k=5:=by omega
 rcases y with rfl|rfl|rfl|rfl|rfl|rfl<;>simp at h3<;>rw [h3]<;>intro e<;>cases e
theorem neg_head (s:ByteArray) (h:isIntB s=true):∃ h0:0<s.size,(((s[0]'h0).toNat:Int)==45)=decide (numT s<0):=by
 obtain ⟨j,O,_⟩:=isIntB_dig s h; have M:=dgs_size s; have u:0<s.size:=by omega
 refine ⟨u,?_⟩; have H:=head_eq s u
 cases hn:isNeg s with
 | true=>
   have e:=neg_text s hn; have E:s.data.toList.head? = some 45:=by rw [e]; rfl
   rw [H] at E; have e1:s[0]=45:=Option.some.inj E; rw [e1]; have D:numT s<0:=by
    have K:numT s≤0:=by unfold numT; rw [hn]; unfold sg; simp
    have hne:numT s≠0:=fun e=>by
     have y:isIntB (strB [48])=true:=by kernel_rfl
     have:=numT_inj s (strB [48]) h y (by rw [e,num_nil]); rw [this] at hn; have h2:isNeg (strB [48])=false:=by kernel_rfl
     rw [h2] at hn; cases hn
    omega
   rw [decide_eq_true D]; rfl
 | false=>
   have J:=numT_pos s hn; rw [decide_eq_false (by omega)]; have e:=pos_text s hn; have m:s[0]∈(dgs s).data.toList:=by
    have I:dgs s=s:=by unfold dgs; rw [hn]; rfl
    rw [I]; exact List.mem_of_mem_head? H
   have h3:=j _ m; unfold dig at h3; rw [beq_eq_false_iff_ne]; omega
theorem skip_C {G:List Nr} {M:List Int} {j:Nat} (h:M.getD j 0=0) (c:Nat):addC G M c (j+1)=addC G M c j:=by
 show addC G M c j+M.getD j 0*_=_
 rw [h,Int.zero_mul,Int.add_zero]
theorem skip_D {G:List Nr} {M:List Int} {j:Nat} (h:M.getD j 0=0):addD G M (j+1)=addD G M j:=by
 show addD G M j+M.getD j 0*_=_
 rw [h,Int.zero_mul,Int.add_zero]
theorem skip_S {G:List Nr} {M:List Int} {j:Nat} (h:M.getD j 0=0):addS G M (j+1)=addS G M j:=by
 show (addS G M j||(_&&!decide (M.getD j 0=0)))=_
 rw [decide_eq_true h,Bool.not_true,Bool.and_false,Bool.or_false]
theorem skip_L {G:List Nr} {M:List Int} {j:Nat} (h:M.getD j 0=0) (n:Nat):sumsL n G M (j+1) 0=sumsL n G M j 0:=by
 refine List.ext_getElem (by rw [sumsL_len,sumsL_len]) fun i h1 h2=>?_; rw [sumsL_at h1,sumsL_at h2,if_neg (Nat.not_lt_zero _),if_neg (Nat.not_lt_zero _),skip_C h]
theorem l2Sign_any (z:Value) (x y:Int) (w:World) (h:IsQN 0 w z x y) :
 Calls Tryz.prog 115 #[z] w fun e w'=>e=.returned (.int .i64 (ordI x 0))∧Up w w':=by
 obtain ⟨a1,M,H,J,c1,a2,O,I,K,c2,rfl,T,h2⟩:=h; have U:=Hd T; clear T h2; obtain ⟨u,m⟩:=exW (w.alloc (.cells #[.int .i64 a1,.bool M,.slice H J c1,.int .i64 a2,.bool O,.slice I K c2] 74)); have E:=Hd m; have s:Hid (Up w u):=by unfold Hid; rw [← m]; exact below_alloc _ _
 have Y:Hid (u.heap.size=w.heap.size+1):=by show u.heap.size=_; rw [← m]; simp
 have j:Bx u (w.heap.size) [.int .i64 a1,.bool M,.slice H J c1,.int .i64 a2,.bool O,.slice I K c2]:=by
  rw [← m]; exact bx_new w _ _
 have Z:Hid (∀ W,Up u W→Bx W (w.heap.size) [.int .i64 a1,.bool M,.slice H J c1,.int .i64 a2,.bool O,.slice I K c2]):=fun W hW=>j.below j.lt hW; have k0:=j.cell 0; have k1:=j.cell 1; have k2:=j.cell 2; have k3:=j.cell 3; have k4:=j.cell 4; have k5:=j.cell 5; simp only [List.getElem?_cons_zero,List.getElem?_cons_succ] at k0 k1 k2 k3 k4 k5; clear m j
 go_enter Tryz.func115,Tryz.ntmps115
 go_upto_region 1 with fail
 rw [E.o]
 go_wp2_with fail
 refine (l1Sign_any 0 _ x 1000 _ (Nat.zero_le _) (U.o.below s.o)).mono ?_; rintro e w1 ⟨rfl,D⟩; have V:=Hd (s.o.trans (D.mono s.o.size)); clear D
 go_wp2
 go_ret
 exact ⟨rfl,V.o⟩
end Go.Proofs.YtfclfbpjjlinhaaGreatDoor.L
