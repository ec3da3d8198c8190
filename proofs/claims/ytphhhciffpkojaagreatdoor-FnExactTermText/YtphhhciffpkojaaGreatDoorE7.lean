import Derived.Test.YtphhhciffpkojaaGreatDoorP00
import Derived.Test.YtphhhciffpkojaaGreatDoorE6
import Derived.Test.YtphhhciffpkojaaGreatDoorP36
set_option maxRecDepth 100000
set_option maxHeartbeats 4000000
set_option linter.all false
namespace Go.Proofs.YtphhhciffpkojaaGreatDoor
open ChangeShapes WideShapes ChangeAt RowKit Proofs.Tryz
variable {F:List Fn}{S:List (List UInt8)}{T:List Tm}
theorem JS (h:Gn S Gt F T=true)(i:Nat)(hi:i<T.length)(e:(Ke T i).op=12):Gt (Ke T i)=true:=by
 have d:=(WZ h).2.2 i hi;unfold U6 at d;simp only[J3] at d;have h3:=d.2;unfold Na at h3;rw[if_neg (by omega),if_neg (by omega),if_neg (by omega),if_neg (by omega),if_neg (by omega),if_pos e] at h3;exact h3
theorem Is {W:World}{v:Value}{l:List UInt8}(h:TY W v l):(convert 103 9 v).run prog W=.ok (.string (Oo l)) W:=by
 obtain⟨g,cap,rfl,-,hc⟩:=h;exact run_convert_bytes_back (P:=prog) W 103 9 5 ⟨g,0,none⟩ cap l underlying103 underlying5 underlying9 (fun j hj=>by rw[JB];exact hc j hj)
theorem TA {w:World}{vs vf vt:Value}(id:Int)(h:BankAt w vs vf vt S F T)(hz:BankZ S F T)(hus:∃ ad n c,vs=.slice (some ad) n c)(h1 : -9223372036854775808<=id)(h2:id<=9223372036854775807) :
 Calls prog 38 #[.agg #[vs,vf,vt],.int .i64 id] w fun e w'=>e=.returned (.string (Oo (SW S F T id)))/\Up w w':=by
 obtain⟨W0,I⟩:=Oa (w.alloc (.cells #[vs,vf,vt] 32));have J:Up w W0:=by rw[<-I];exact Oz _ _
 have Y:Bx W0 w.heap.size [vs,vf,vt]:=by rw[<-I];exact Oi w _ _
 have d7:=Hd I;have a8:=Hd J;have G:=Hd Y;have d4:=Hd (h.bl J);have d5:=Hd (Lh (h.bl J) hz hus);have e9:=hz.lt;obtain⟨ps,cs,rfl,-,-,-⟩:=h.s;obtain⟨pf,cf,rfl,-,-,-⟩:=h.f;obtain⟨pt,ct,rfl,-,-,-⟩:=h.t;obtain⟨c0,c1,c2⟩:=Y.c3;clear h I J Y hus hz
 go_in
 go_upto_region 1 with fail
 rw[d7.o]
 go_wp2_with fail
 refine d5.o.mono ?_;rintro e w1 ⟨rfl,j⟩;have d:=Hd (a8.o.trans (j.mono a8.o.size));have M:=Hd (d4.o.bl j);have b7:=Hd (G.o.bl G.o.lt j);obtain⟨d0,d1,d2⟩:=(G.o.bl G.o.lt j).c3;clear j c0 c1 c2
 cases Z:Gn S Gt F T
 ·have E:Hid (SW S F T id=[]):=by unfold Hid SW;rw[if_neg (by rw[Z];simp)]
  clear Z
  go_wp2
  go_ret
  exact⟨by rw[E.o];rfl,d.o⟩
 obtain⟨c8,b8,c6⟩:=JU Z;have HG:=Hd Z;have b5:=Hd c8;have d6:=Hd c6;have b4:=Hd (fun i hi e=>JS Z i hi e);clear Z c8 c6
 by_cases e1:id<0
 ·have z1:decide (id<0)=true:=Ja e1;have E:Hid (SW S F T id=[]):=by unfold Hid SW;rw[if_neg (by omega)]
  go_wp2
  go_ret
  exact⟨by rw[E.o];rfl,d.o⟩
 have z1:decide (id<0)=false:=Jc e1
 by_cases e2:(T.length:Int)<=id
 ·have z2:decide ((T.length:Int)<=id)=true:=Ja e2;have E:Hid (SW S F T id=[]):=by unfold Hid SW;rw[if_neg (by omega)]
  go_wp2
  go_ret
  exact⟨by rw[E.o];rfl,d.o⟩
 obtain⟨n,rfl⟩:∃ n:Nat,id=(n:Int):=⟨id.toNat,by omega⟩;have U:n<T.length:=by omega
 have z2:decide ((T.length:Int)<=(n:Int))=false:=Jc e2;have z3:decide (T.length<=n)=false:=Jc (by omega);have z4:decide (n<T.length)=true:=Ja U;clear e1 e2
 go_wp2_with fail
 refine (WM M.o b8 b5.o b4.o).mono ?_;rintro e w2 ⟨g,rfl,hs,K⟩;obtain⟨v,q0,V⟩:=hs n U;have f8:=V.le;have b6:=Hd V;have O:=Hd (d.o.trans (K.mono d.o.size));have b3:=Hd (M.o.bl K);obtain⟨b0,b1,b2⟩:=(b7.o.bl b7.o.lt K).c3;clear hs V K d0 d1 d2
 cases hv:decide (20000<v)
 ·have hl:(SB T n).length<=20000:=by
   have:=of_decide_eq_false hv
   rcases b6.o with h|h<;>omega
  have z5:decide ((20000:Int)<(v:Int))=false:=by have:=of_decide_eq_false hv;exact Jc (by omega)
  have E:Hid (SW S F T (n:Int)=SB T n):=by
   unfold Hid SW;rw[Int.toNat_natCast,if_pos ⟨HG.o,by omega,by omega,hl⟩]
  clear hv
  go_wp2_with fail
  refine (JO b8 b5.o b4.o d6.o (n+1) n (Yl n) U hl w2 b3.o).mono ?_;rintro e w3 ⟨u,rfl,hu,b9⟩;have f5:=Is hu;have d3:=Hd (O.o.trans (b9.mono O.o.size));clear hu b9
  go_wp2
  go_ret
  exact⟨by rw[E.o];rfl,d3.o⟩
 have hl:20000<(SB T n).length:=by
  have:=of_decide_eq_true hv
  rcases b6.o with h|h<;>omega
 have z5:decide ((20000:Int)<(v:Int))=true:=by have:=of_decide_eq_true hv;exact Ja (by omega)
 have E:Hid (SW S F T (n:Int)=[]):=by
  unfold Hid SW;rw[Int.toNat_natCast,if_neg];rintro⟨-,-,-,h4⟩;omega
 clear hv
 go_wp2
 go_ret
 exact⟨by rw[E.o];rfl,O.o⟩
theorem WA {vs vf vt:Value}(id:Int)(w:World)(h:ArgBank w vs vf vt S F T)(hw:BD T)(hv:Vars w)(ho:OW w)(h1 : -9223372036854775808<=id)(h2:id<=9223372036854775807) :
 Calls prog 8 #[.agg #[vs,vf,vt],.int .i64 id] w fun e w'=>e=.returned (.bool true)/\Up w w':=by
 obtain⟨a1,c1,e1,-,-,-,-⟩:=h.s;obtain⟨a2,c2,e2,-,-,-,-⟩:=h.f;obtain⟨a3,c3,e3,-,-,-,-⟩:=h.t;have HA:=Hd h;have HW:=Hd hw;have HV:=Hd hv;have g9:=Hd ho;subst e1 e2 e3;clear h hw hv ho
 go_in
 go_wp2_with fail
 have M:Hid (Up w (w.alloc (.cells #[.slice a1 S.length c1,.slice a2 F.length c2,.slice a3 T.length c3] 26))):=Oz _ _;have d4:Hid (Bx (w.alloc (.cells #[.slice a1 S.length c1,.slice a2 F.length c2,.slice a3 T.length c3] 26)) w.heap.size [.slice a1 S.length c1,.slice a2 F.length c2,.slice a3 T.length c3]):=Oi w _ _;refine (EN 1048576 _ (HA.o.bl M.o) leR).mono ?_;rintro e w2 ⟨(rfl|⟨z2,j3,rfl,b6⟩),j⟩
 ·have G:=M.up j;clear j
  go_wp2
  go_ret
  exact⟨rfl,G.o⟩
 have G:=M.up j;have Y:=Hd (d4.o.bl d4.o.lt j);have HS:=Hd b6;have HZ:=Hd (b6.z HW.o);have y2:decide ((z2:Int)<0)=false:=dF (by omega)
 obtain⟨b0,b1,b2⟩:=Y.o.c3;clear j b6
 go_wp2_with fail
 refine (TN w2 (HA.o.bl G.o) HS.o).mono ?_;rintro e w3 ⟨us,uf,ut,rfl,d,e7,b3⟩;have HU:=Hd d;have h9:=Hd e7;have g5:=G.up b3;have d5:=Hd (Y.o.bl Y.o.lt b3);obtain⟨u1,d1,e1,-,-,-⟩:=d.s;obtain⟨u2,d2,e2,-,-,-⟩:=d.f;obtain⟨u3,d3,e3,-,-,-⟩:=d.t;subst e1 e2 e3;clear d e7 b3 b0 b1 b2
 go_wp2_with fail
 have c8:=Hd (TA id HU.o HZ.o h9.o h1 h2);have V:Hid (∀ W ws wf wt,BankAt W ws wf wt S F T->Up w W->Calls prog 39 #[.agg #[ws,wf,wt],.int .i64 id] W fun e w'=>e=.returned (.string (Oo (SW S F T id)))/\Up W w'):=fun W ws wf wt hb hB=>TB id hb HZ.o (HV.o.bl hB) (g9.o.bl hB) (fun h=>JU h) h1 h2;generalize Oo (SW S F T id)=B at c8 V;refine c8.o.mono ?_;rintro e w4 ⟨rfl,b4⟩;have b7:=g5.up b4;have Z:=Hd (d5.o.bl d5.o.lt b4);obtain⟨b0,b1,b2⟩:=Z.o.c3;clear b4
 go_wp2_with fail
 refine (TN w4 (HA.o.bl b7.o) HS.o).mono ?_;rintro e w5 ⟨ws,wf,wt,rfl,d,-,b5⟩;have h6:=Hd d;have g6:=b7.up b5;have d6:=Hd (Z.o.bl Z.o.lt b5);obtain⟨s1,t1,e1,-,-,-⟩:=d.s;obtain⟨s2,t2,e2,-,-,-⟩:=d.f;obtain⟨s3,t3,e3,-,-,-⟩:=d.t;subst e1 e2 e3;clear d b5 b0 b1 b2
 go_wp2_with fail
 obtain⟨W6,J⟩:=Oa (w5.alloc (.cells #[.slice s1 S.length t1,.slice s2 F.length t2,.slice s3 T.length t3] 32));have I:Up w5 W6:=by rw[<-J];exact Oz _ _
 have e8:Bx W6 w5.heap.size [.slice s1 S.length t1,.slice s2 F.length t2,.slice s3 T.length t3]:=by rw[<-J];exact Oi w5 _ _
 have b8:=g6.up I;have d7:=Hd (d6.o.bl d6.o.lt I);have d8:=Hd e8;have d0:=Hd (h6.o.bl I);rw[J];clear J I e8;refine (V.o _ _ _ _ d0.o b8.o).mono ?_;rintro e w7 ⟨rfl,E⟩;have O:=b8.up E;have a7:=Hd (d7.o.bl d7.o.lt E);have a8:=Hd (d8.o.bl d8.o.lt E);have h7:=Hd (d0.o.bl E);obtain⟨b0,b1,b2⟩:=a7.o.c3;obtain⟨g0,g1,g2⟩:=a8.o.c3;clear E V
 go_wp2_with fail
 clear b0 b1 b2 g0 g1 g2;have HC:Hid (∀ W,Up w7 W->W.cell? ⟨w.heap.size,0,none⟩=some (.slice a1 S.length c1)/\W.cell? ⟨w.heap.size,1,none⟩=some (.slice a2 F.length c2)/\W.cell? ⟨w.heap.size,2,none⟩=some (.slice a3 T.length c3)/\W.cell? ⟨w5.heap.size,0,none⟩=some (.slice s1 S.length t1)/\W.cell? ⟨w5.heap.size,1,none⟩=some (.slice s2 F.length t2)/\W.cell? ⟨w5.heap.size,2,none⟩=some (.slice s3 T.length t3)):=fun W h=>by
  obtain⟨b0,b1,b2⟩:=(a7.o.bl a7.o.lt h).c3;obtain⟨g0,g1,g2⟩:=(a8.o.bl a8.o.lt h).c3;exact⟨b0,b1,b2,g0,g1,g2⟩
 have c6:Hid (Up w7 w7.drew):=(Je _ _).drew;have g4:=Hd (HA.o.bl O.o.drew)
 go_region_held3 (fun W=>W.cell? ⟨w.heap.size,0,none⟩=some (.slice a1 S.length c1)/\W.cell? ⟨w.heap.size,1,none⟩=some (.slice a2 F.length c2)/\W.cell? ⟨w.heap.size,2,none⟩=some (.slice a3 T.length c3)/\W.cell? ⟨w5.heap.size,0,none⟩=some (.slice s1 S.length t1)/\W.cell? ⟨w5.heap.size,1,none⟩=some (.slice s2 F.length t2)/\W.cell? ⟨w5.heap.size,2,none⟩=some (.slice s3 T.length t3))
  (first
    | exact HC.o _ c6.o
    | exact HC.o _ b9.o
    | exact HC.o _ U.o)
  (first
    | (go_at_call 11;refine (TN w7.drew g4.o HS.o).mono ?_;rintro e w8 ⟨xs,xf,xt,rfl,K,-,e5⟩;have h8:=Hd K;have U:=c6.up e5;clear K e5)
    | (go_at_call 13;refine (Cj w8 (h7.o.bl U.o) h8.o).mono ?_;rintro e w9 ⟨rfl,e6⟩;have b9:=U.up e6;clear e6))
 all_goals
  have g7:Hid (Up w w9):=O.o.trans (b9.o.mono O.o.size)
  go_wp2
  go_ret
  exact⟨rfl,g7.o⟩
theorem oS:prog.globalNamed "loop.example/g00007/impl.opWords" = some 0:=by kernel_rfl
theorem yZ:(prog.globals[0]?).map (·.type)=some 163:=by kernel_rfl
theorem JZ:(Rows.laid_loop_example_g00007_impl_opWords:DataW Unit)=.agg (JF.map fun s=>.lit (.string s)):=rfl
theorem JY {W:World}{L:List (String×DataW Unit)}(h:laidMet prog (("loop.example/g00007/impl.opWords",Rows.laid_loop_example_g00007_impl_opWords)::L) W):OW W:=by
 obtain⟨ps,⟨g0,t0,j,f0,p0,q0,E,M,O,J,_,_⟩,_⟩:=h;obtain rfl:=Option.some.inj (oS.symm.trans E);obtain rfl:=Option.some.inj (yZ.symm.trans M);have d:=Uk E O;obtain⟨xs,m,_,Z,hl,hn,K⟩:=DataW.trod_array underlying163 J;have c1:prog.cellsOf 9=1:=by kernel_rfl
 rw[JZ] at Z;have hm:(JF.map fun s=>DataW.lit (.string s))=xs.map (·.1):=DataW.agg.inj (Prod.mk.inj Z).1;have Y:JF.length=48:=rfl;intro i hi;have e:=K i hi;rw[c1,Jd (by omega)] at e;obtain⟨s0,G⟩:∃ s0,JF[i]? = some s0:=⟨_,Jd (by omega)⟩;have U:(JF.map fun s=>(DataW.lit (.string s):DataW Unit))[i]? = (xs.map (·.1))[i]? := by rw[hm]
 rw[Y6,Y6,G,Jd (by omega)] at U;have I:DataW.lit (.string s0)=xs[i].1:=Option.some.inj U;obtain⟨s,e1,e2,_⟩:=DataW.trod_string underlying9 e;rw[e2] at I;have h4:s0=s.data.toList:=by simpa using I
 have V:j.toList[i]? = some (.string s):=by
  have h3:(List.take 1 (List.drop (i*1) j.toList))[0]? = some (.string s):=by rw[e1];rfl
  rw[List.getElem?_take_of_lt (by decide),Uz] at h3
  simpa using h3
 rw[d i,Ji,G,h4];rw[Array.getElem?_toList] at V;exact V
theorem yX {H:Type}{enc:TypeId×Value->H}{P:Program}{w:World}{spare:Nat->Bool}{n0 n1 n2 n3 n4:String}{gs:List (DataW H)}{ps:List MemPlace}(h:DataW.TrodVars enc P w spare [n0,n1,n2,n3,n4] gs ps):∃ a b c d e,gs=[a,b,c,d,e]:=by
 cases gs with
 | nil=>exact absurd h (by simp[DataW.TrodVars])
 | cons a g1=>
   obtain⟨_,_,_,_,_,_,_,_,_,_,h,_⟩:=h;obtain⟨b,c,d,e,rfl⟩:=AI h;exact⟨a,b,c,d,e,rfl⟩
end Go.Proofs.YtphhhciffpkojaaGreatDoor
