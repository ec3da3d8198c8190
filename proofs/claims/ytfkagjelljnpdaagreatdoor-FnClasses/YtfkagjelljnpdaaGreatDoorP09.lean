import Derived.Test.YtfkagjelljnpdaaGreatDoorP07
import Derived.Test.YtfkagjelljnpdaaGreatDoorP08
set_option maxRecDepth 100000
set_option maxHeartbeats 1000000
namespace Go.Proofs.YtfkagjelljnpdaaGreatDoor.Q
open ChangeShapes WideShapes ChangeAt RowKit Proofs.Tryz
variable {B:Nat}{W w:World}
theorem Xm{g:Nat}{l:List Value}(h:Bx W g l)(hl:∀v∈l,∀x,v≠.int .u32 x):Hi W g:=fun i x=>by
 rw[h.cell i]
 intro e
 exact hl _ (Zb e) x rfl
theorem Gc.put2{v:Value}{l:List Nat}(h:Gc B W v l){g:Nat}(n:Hi W g)(u0 u1:Value):Gc B ((W.setCell ⟨g,0,none⟩ u0).setCell ⟨g,1,none⟩ u1) v l:=
 h.keeps n n (Et.setCell (Et.setCell (Et.refl g g W) ⟨g,0,none⟩ u0 (Or.inl rfl)) ⟨g,1,none⟩ u1 (Or.inl rfl))
theorem MU{N:Nat}(h:Below N w W)(g:Nat)(hg:N<=g)(u0 u1:Value):Below N w ((W.setCell ⟨g,0,none⟩ u0).setCell ⟨g,1,none⟩ u1):=
 (h.setCell (p:=⟨g,0,none⟩) hg u0).setCell (p:=⟨g,1,none⟩) hg u1
theorem De(n:Nat)(w:World)(hn:n<18446744073709551616) :
 Calls prog 198 #[.int .u64 (n:Nat)] w fun e w'=>∃z,e=.returned z/\Qp w.heap.size w' z (n:Nat) 3/\Up w w':=by
 obtain⟨V,j⟩:=O2 (w.alloc (.cells #[.bool false,.slice none 0 0] 201));have b1:=Hd j;have G:Bx V w.heap.size [.bool false,.slice none 0 0]:=by rw[<-j];exact Oq w _ _
 have q:Hid (Up w V):=by unfold Hid;rw[<-j];exact Oy _ _
 have O:Hid (∀W,Up V W->Bx W w.heap.size [.bool false,.slice none 0 0]):=fun W hW=>G.bl G.lt hW;clear j G
 go_in
 go_wp2_with fail
 rw[b1.o];refine(B4 n _ hn).mono ?_;rintro e w1 ⟨v,t,rfl,hv,ht,a7,a1,Y⟩;have HV:=Hd hv;have K:=Hd Y;have HT:Hid (Kl t/\val t=n/\t.length<=3):=⟨ht,a7,a1⟩;obtain⟨pv,cv,b5,_⟩:=hv;subst b5;clear ht a7 a1 Y
 go_wp2_with fail
 refine(I9 V.heap.size false _ t _ HV.o).mono ?_;rintro e w2 ⟨v',rfl,hcut,hb2⟩;have R:Hid (Gc V.heap.size w2 v' t):=by
  have h:=hcut _ _ (HV.o.bl hb2);rw[Lc t HT.o.1]at h;exact h
 have E:=Hd (K.o.trans (hb2.mono K.o.size));have e1:Um false (O0 t)=false:=by unfold Um;rfl
 rw[e1];have hb:=O.o w2 E.o;obtain⟨k0,k1⟩:=hb.k2;obtain⟨r0,r1⟩:=hb.f2;obtain⟨J,c2,b4,_⟩:=R.o;subst b4;clear hcut hb2 hb e1
 go_wp2
 have Z:=O.o w2 E.o;have b3:=Xm Z (by simp);have b2:=(R.o.mono q.o.size).put2 b3 (.bool false) (.slice J t.length c2);have hZ:Bx ((w2.setCell ⟨w.heap.size,0,none⟩ (.bool false)).setCell ⟨w.heap.size,1,none⟩ (.slice J t.length c2)) w.heap.size [.bool false,.slice J t.length c2]:=(Z.set 0 _).set 1 _;have hE:=MU (q.o.trans (E.o.mono q.o.size)) w.heap.size leR (.bool false) (.slice J t.length c2);generalize (w2.setCell ⟨w.heap.size,0,none⟩ (.bool false)).setCell ⟨w.heap.size,1,none⟩ (.slice J t.length c2)=WE at *;obtain⟨m0,m1⟩:=hZ.k2;refine Jl (v:=.agg #[.bool false,.slice J t.length c2]) ?_ rfl ⟨_,rfl,⟨false,_,t,by unfold Um;rfl,b2,HT.o.1,by rw[HT.o.2.1];rfl,HT.o.2.2⟩,hE⟩;simp[results,results198,go_sem,m0,m1]
def Qd(B:Nat)(w:World)(z:Value)(x y:Int)(n:Nat):Prop:=∃s1 v1 s2 v2,z=.agg #[.bool s1,v1,.bool s2,v2]/\Qp B w (.agg #[.bool s1,v1]) x n/\Qp B w (.agg #[.bool s2,v2]) y n
theorem Qd.bl{w':World}{z:Value}{x y:Int}{n:Nat}(h:Qd B w z x y n)(hb:Up w w'):Qd B w' z x y n:=by
 obtain⟨s1,v1,E,v2,e,j,q⟩:=h;exact⟨s1,v1,E,v2,e,j.bl hb,q.bl hb⟩
theorem Qp.parts{s:Bool}{v:Value}{x:Int}{n:Nat}(h:Qp B w (.agg #[.bool s,v]) x n):∃neg t,s=Um neg t/\Gc B w v t/\Kl t/\sg neg (val t)=x/\t.length<=n:=by
 obtain⟨neg,v',t,e,j,q,E,G⟩:=h;simp only[Value.agg.injEq,Array.mk.injEq,List.cons.injEq,Value.bool.injEq,and_true]at e;obtain⟨rfl,rfl⟩:=e;exact⟨neg,t,rfl,j,q,E,G⟩
end Go.Proofs.YtfkagjelljnpdaaGreatDoor.Q
namespace Go.Proofs.YtfkagjelljnpdaaGreatDoor.Q
open ChangeShapes WideShapes ChangeAt RowKit
variable {B g n:Nat}{W:World}{z:Value}
theorem Qp.put2{x:Int}(h:Qp B W z x n)(no:Hi W g)(u0 u1:Value):Qp B ((W.setCell ⟨g,0,none⟩ u0).setCell ⟨g,1,none⟩ u1) z x n:=by
 obtain⟨neg,v,t,e,j,q,E,G⟩:=h;exact⟨neg,v,t,e,j.put2 no u0 u1,q,E,G⟩
theorem Gc.put4{v:Value}{l:List Nat}(h:Gc B W v l)(n:Hi W g)(u0 u1 u2 u3:Value):Gc B ((((W.setCell ⟨g,0,none⟩ u0).setCell ⟨g,1,none⟩ u1).setCell ⟨g,2,none⟩ u2).setCell ⟨g,3,none⟩ u3) v l:=
 h.keeps n n (Et.setCell (Et.setCell (Et.setCell (Et.setCell (Et.refl g g W) ⟨g,0,none⟩ u0 (Or.inl rfl)) ⟨g,1,none⟩ u1 (Or.inl rfl)) ⟨g,2,none⟩ u2 (Or.inl rfl)) ⟨g,3,none⟩ u3 (Or.inl rfl))
theorem Qp.put4{x:Int}(h:Qp B W z x n)(no:Hi W g)(u0 u1 u2 u3:Value):Qp B ((((W.setCell ⟨g,0,none⟩ u0).setCell ⟨g,1,none⟩ u1).setCell ⟨g,2,none⟩ u2).setCell ⟨g,3,none⟩ u3) z x n:=by
 obtain⟨neg,v,t,e,j,q,E,G⟩:=h;exact⟨neg,v,t,e,j.put4 no u0 u1 u2 u3,q,E,G⟩
theorem Ld{N:Nat}{w:World}(h:Below N w W)(g:Nat)(hg:N<=g)(u0 u1 u2 u3:Value):Below N w ((((W.setCell ⟨g,0,none⟩ u0).setCell ⟨g,1,none⟩ u1).setCell ⟨g,2,none⟩ u2).setCell ⟨g,3,none⟩ u3):=
 (MU h g hg u0 u1).setCell (p:=⟨g,2,none⟩) hg u2 |>.setCell (p:=⟨g,3,none⟩) hg u3
theorem Bx.put2{a b:Value}(h:Bx W g [a,b])(u0 u1:Value):Bx ((W.setCell ⟨g,0,none⟩ u0).setCell ⟨g,1,none⟩ u1) g [u0,u1]:=(h.set 0 u0).set 1 u1
theorem Qd.shape{w:World}{x y:Int}(h:Qd B w z x y n):∃s1 p1 l1 c1 s2 p2 l2 c2,z=.agg #[.bool s1,.slice p1 l1 c1,.bool s2,.slice p2 l2 c2]/\Qp B w (.agg #[.bool s1,.slice p1 l1 c1]) x n/\Qp B w (.agg #[.bool s2,.slice p2 l2 c2]) y n:=by
 obtain⟨s1,v1,s2,v2,rfl,j,q⟩:=h;obtain⟨_,t1,_,⟨p1,c1,rfl,_⟩,_⟩:=j.parts;obtain⟨_,t2,_,⟨p2,c2,rfl,_⟩,_⟩:=q.parts;exact⟨s1,p1,_,c1,s2,p2,_,c2,rfl,j,q⟩
end Go.Proofs.YtfkagjelljnpdaaGreatDoor.Q
namespace Go.Proofs.YtfkagjelljnpdaaGreatDoor.Q
open ChangeShapes WideShapes ChangeAt RowKit Proofs.Tryz
theorem FI(a c a' c':ByteArray)(b b':Bool)(w:World):(Op.equalIn 10000 214 (.agg #[.string a,.bool b,.string c]) (.agg #[.string a',.bool b',.string c'])).run prog w=.ok (a.toList==a'.toList&&b==b'&&c.toList==c'.toList) w:=by
 have u3:=underlying9;have u4:=underlying4;have a3:=Tryz.isAgg9;have a4:=Tryz.isAgg4;have z3:=Tryz.sizeOf9;have z4:=Tryz.sizeOf4;have E:prog.underlying 214=some (.struct (prog.fieldsOf 214)):=by kernel_rfl
 rw[show(10000:Nat)=9999+1 from rfl,run_equalIn_agg w 9999 214 _ _ E (by kernel_rfl)];simp only[Program.fieldsOf,underlying214]
 go_simp
 by_cases h:a.toList=a'.toList<;>by_cases j:b=b'<;>by_cases q:c.toList=c'.toList<;>simp[h,j,q]
def P7(s:ByteArray)(k:Option Nat)(x y:Int):Prop:=
 match k with
 | none=>Ol s=true/\x=G9 s/\y=1
 | some i=>(Ol (Xv s (some i))=true/\Ol (Gw s (some i))=true)/\(G9 (Gw s (some i))≠0/\Xv s (some i)≠Kc [48]/\Gw s (some i)≠Kc [49]/\Ur (Gw s (some i))=false/\Int.gcd (G9 (Xv s (some i))) (G9 (Gw s (some i)))=1) /\
  x=G9 (Xv s (some i))/\y=G9 (Gw s (some i))
def FK(s:ByteArray)(b:Bool):Prop:=∃k,Kb s k/\(b=true↔∃x y,P7 s k x y)
theorem Rt(s1:Bool)(p1:Option Addr)(l1 c1:Nat)(w:World) :
 Calls prog 175 #[.agg #[.bool s1,.slice p1 l1 c1]] w fun e w'=>∃s2 p2 l2 c2,e=.returned (.agg #[.bool s1,.slice p1 l1 c1,.bool s2,.slice p2 l2 c2])/\Qp w.heap.size w' (.agg #[.bool s2,.slice p2 l2 c2]) 1 3/\Up w w':=by
 obtain⟨O,j⟩:=O2 ((w.alloc (.cells #[.bool s1,.slice p1 l1 c1] 201)).alloc (.cells #[.bool false,.slice none 0 0,.bool false,.slice none 0 0] 205));have Z:=Hd j;have E:Hid (Up w O):=by
  unfold Hid
  rw[<-j];exact Iy (Oy _ _) _
 have q:Bx O w.heap.size [.bool s1,.slice p1 l1 c1]:=by rw[<-j];exact(Oq w _ _).alloc _
 have J:Bx O (w.heap.size+1) [.bool false,.slice none 0 0,.bool false,.slice none 0 0]:=by
  rw[<-j];have h:=Oq (w.alloc (.cells #[.bool s1,.slice p1 l1 c1] 201)) [.bool false,.slice none 0 0,.bool false,.slice none 0 0] 205;rw[Ju]at h;exact h
 have HX:Hid (∀W,Up O W->Bx W w.heap.size [.bool s1,.slice p1 l1 c1]/\Bx W (w.heap.size+1) [.bool false,.slice none 0 0,.bool false,.slice none 0 0]):=fun W hW=>⟨q.bl q.lt hW,J.bl J.lt hW⟩;clear j;obtain⟨k0,k1⟩:=q.k2;clear q J
 go_in
 go_upto_region 1 with fail
 rw[Z.o]
 go_region_with (first
  | (go_at_call 198
     refine(De 1 _ (by decide)).mono ?_;rintro e w1 ⟨z,rfl,hz,R⟩;have G:Hid (Up O w1):=(Ji _ O).drew.trans R;obtain⟨s2,p2,l2,c2,rfl⟩:=hz.shape;have HZ:=Hd hz;obtain⟨Y,K⟩:=HX.o w1 G.o;obtain⟨j0,j1⟩:=Y.k2;obtain⟨r0,r1,r2,r3⟩:=K.k4;obtain⟨f0,f1,f2,f3⟩:=K.f4;clear hz R Y K))
 all_goals
  try simp only[List.getElem_toArray,List.getElem_cons_succ,Vl,Act.put,Ja,Jf,Je]
  go_wp2
  have V:=(HX.o w1 G.o).2;have a8:Hi w1 (w.heap.size+1):=Xm V (by simp);have a7:=(HZ.o.mono (B':=w.heap.size) (n':=3) E.o.size leR).put4 a8 (.bool s1) (.slice p1 l1 c1) (.bool s2) (.slice p2 l2 c2);have a1:=Ld (E.o.trans (G.o.mono E.o.size)) (w.heap.size+1) (Y8 _) (.bool s1) (.slice p1 l1 c1) (.bool s2) (.slice p2 l2 c2);have hZ:Bx ((((w1.setCell ⟨w.heap.size+1,0,none⟩ (.bool s1)).setCell ⟨w.heap.size+1,1,none⟩ (.slice p1 l1 c1)).setCell ⟨w.heap.size+1,2,none⟩ (.bool s2)).setCell ⟨w.heap.size+1,3,none⟩ (.slice p2 l2 c2)) (w.heap.size+1) [.bool s1,.slice p1 l1 c1,.bool s2,.slice p2 l2 c2]:=(((V.set 0 _).set 1 _).set 2 _).set 3 _;generalize (((w1.setCell ⟨w.heap.size+1,0,none⟩ (.bool s1)).setCell ⟨w.heap.size+1,1,none⟩ (.slice p1 l1 c1)).setCell ⟨w.heap.size+1,2,none⟩ (.bool s2)).setCell ⟨w.heap.size+1,3,none⟩ (.slice p2 l2 c2)=W9 at *;obtain⟨m0,m1,m2,m3⟩:=hZ.k4;refine Jl (v:=.agg #[.bool s1,.slice p1 l1 c1,.bool s2,.slice p2 l2 c2]) ?_ rfl ⟨s2,p2,l2,c2,rfl,a7,a1⟩;simp[results,results175,go_sem,m0,m1,m2,m3]
end Go.Proofs.YtfkagjelljnpdaaGreatDoor.Q
namespace Go.Proofs.YtfkagjelljnpdaaGreatDoor.Q
open ChangeShapes WideShapes ChangeAt RowKit
def FN(z:Value):Prop:=∃s1 p1 l1 c1 s2 p2 l2 c2,z=.agg #[.bool s1,.slice p1 l1 c1,.bool s2,.slice p2 l2 c2]
def Gl(B:Nat)(w:World)(s:ByteArray)(k:Option Nat)(z:Value)(ok:Bool):Prop:=
 FN z/\(ok=true↔∃x y,P7 s k x y)/\(ok=true->∃x y,P7 s k x y/\Qd B w z x y 300)
theorem Qd.mono{B B':Nat}{w:World}{z:Value}{x y:Int}{n n':Nat}(h:Qd B w z x y n)(hb:B'<=B)(hn:n<=n'):Qd B' w z x y n':=by
 obtain⟨s1,v1,E,v2,e,j,q⟩:=h;exact⟨s1,v1,E,v2,e,j.mono hb hn,q.mono hb hn⟩
theorem Qd.put4{B:Nat}{W:World}{z:Value}{x y:Int}{n:Nat}(h:Qd B W z x y n){g:Nat}(no:Hi W g)(u0 u1 u2 u3:Value):Qd B ((((W.setCell ⟨g,0,none⟩ u0).setCell ⟨g,1,none⟩ u1).setCell ⟨g,2,none⟩ u2).setCell ⟨g,3,none⟩ u3) z x y n:=by
 obtain⟨s1,v1,E,v2,e,j,q⟩:=h;exact⟨s1,v1,E,v2,e,j.put4 no u0 u1 u2 u3,q.put4 no u0 u1 u2 u3⟩
end Go.Proofs.YtfkagjelljnpdaaGreatDoor.Q
