import Derived.Test.YtfkagjelljnpdaaGreatDoorP12
import Derived.Deep.RegionHeld3
import Derived.Lay
import Derived.ChangeVars
set_option maxRecDepth 100000
namespace Go.Proofs.YtfkagjelljnpdaaGreatDoor.Q
open ChangeShapes WideShapes ChangeAt RowKit
variable {B:Nat}{ok:Bool}{w:World}{z:Value}
theorem Qp.setC{x:Int}{n:Nat}(h:Qp B w z x n)(p:Addr)(u:Value)(hp:p.block<B):Qp B (w.setCell p u) z x n:=by
 obtain⟨neg,v,t,e,j,r⟩:=h;exact⟨neg,v,t,e,j.setCell p u hp,r⟩
theorem Qd.setC{x y:Int}{n:Nat}(h:Qd B w z x y n)(p:Addr)(u:Value)(hp:p.block<B):Qd B (w.setCell p u) z x y n:=by
 obtain⟨s1,v1,E,v2,e,j,q⟩:=h;exact⟨s1,v1,E,v2,e,j.setC p u hp,q.setC p u hp⟩
theorem Gl.setC{s:ByteArray}{k:Option Nat}(h:Gl B w s k z ok)(p:Addr)(u:Value)(hp:p.block<B):Gl B (w.setCell p u) s k z ok:=
 ⟨h.1,h.2.1,fun ho=>by obtain⟨x,y,j,hq⟩:=h.2.2 ho;exact⟨x,y,j,hq.setC p u hp⟩⟩
theorem Gl.bl{w':World}{s:ByteArray}{k:Option Nat}(h:Gl B w s k z ok)(hb:Up w w'):Gl B w' s k z ok:=
 ⟨h.1,h.2.1,fun ho=>by obtain⟨x,y,j,hq⟩:=h.2.2 ho;exact⟨x,y,j,hq.bl hb⟩⟩
theorem Gl.mono{B':Nat}{s:ByteArray}{k:Option Nat}(h:Gl B w s k z ok)(hb:B'<=B):Gl B' w s k z ok:=
 ⟨h.1,h.2.1,fun ho=>by obtain⟨x,y,j,hq⟩:=h.2.2 ho;exact⟨x,y,j,hq.mono hb leR⟩⟩
theorem Gl.drew{s:ByteArray}{k:Option Nat}(h:Gl B w s k z ok):Gl B w.drew s k z ok:=h.bl (Ji _ w).drew
theorem Gl.put{s:ByteArray}{k:Option Nat}(h:Gl B w s k z ok)(g:Nat)(hg:g<B)(u0 u1 u2 u3:Value):Gl B ((((w.setCell ⟨g,0,none⟩ u0).setCell ⟨g,1,none⟩ u1).setCell ⟨g,2,none⟩ u2).setCell ⟨g,3,none⟩ u3) s k z ok:=
 (((h.setC _ _ hg).setC _ _ hg).setC _ _ hg).setC _ _ hg
end Go.Proofs.YtfkagjelljnpdaaGreatDoor.Q
namespace Go.Proofs.YtfkagjelljnpdaaGreatDoor.Q
open ChangeShapes WideShapes ChangeAt RowKit Proofs.Tryz
variable {w:World}
theorem M7(c:UInt8)(l:List UInt8):((Kc (c::l)).extract 0 1).toList=[c]:=by
 rw[Jk];simp[Kc]
theorem GS(c:UInt8)(l:List UInt8):((Kc (c::l)).extract 1 (Kc (c::l)).size).data.toList=l:=by
 rw[Gq];simp[Kc]
theorem OE{ds:List Nat}(h:Am ds):(Od ds).all E5=true:=by
 rw[Jx];intro c j;unfold Od at j;rw[Yu]at j;obtain⟨x,hx,rfl⟩:=j;have:=h x hx;unfold E5;rw[Jv,UInt8.toNat_ofNat_of_lt' (by simp[UInt8.size];omega)];exact this
theorem KW(s:Bool)(ds:List Nat)(h:Am ds)(hh:49<=ds.headD 0)(h2:ds.length<=2500):Ol (Kc (Od (drawn s ds)))=true/\((Kc (Od (drawn s ds))).toList==[48])=false:=by
 cases ds with
 | nil=>simp at hh
 | cons d l=>
   have hd:=h d (by simp);have V:49<=d:=by simpa using hh
   have j:=OE h;have q:UInt8.ofNat d≠48:=fun e=>by
    have:=congrArg UInt8.toNat e;rw[UInt8.toNat_ofNat_of_lt' (by simp[UInt8.size];omega)]at this;have Z:(48:UInt8).toNat=48:=rfl;omega
   have E:UInt8.ofNat d≠45:=fun e=>by
    have:=congrArg UInt8.toNat e;rw[UInt8.toNat_ofNat_of_lt' (by simp[UInt8.size];omega)]at this;have Y:(45:UInt8).toNat=45:=rfl;omega
   cases s
   ·have K:Od (drawn false (d::l))=UInt8.ofNat d::Od l:=by simp[drawn,Od]
    have O:Ur (Kc (UInt8.ofNat d::Od l))=false:=by
     unfold Ur;rw[M7];simp[E]
    have J:dgs (Kc (UInt8.ofNat d::Od l))=Kc (UInt8.ofNat d::Od l):=by unfold dgs;rw[O];rfl
    have hb:(Kc (UInt8.ofNat d::Od l)).data.toList=UInt8.ofNat d::Od l:=by simp[Kc]
    have G:(Kc (UInt8.ofNat d::Od l)).size=l.length+1:=by rw[Gq];simp[Od]
    rw[K];refine⟨?_,?_⟩
    ·unfold Ol;rw[J,hb,G];have R:(UInt8.ofNat d::Od l).all E5=true:=by simpa[Od]using j
     rw[R];have:l.length+1<=2500:=by simpa using h2
     simp[this,q]
    rw[Jk,hb];simp[q]
   have K:Od (drawn true (d::l))=45::UInt8.ofNat d::Od l:=by simp[drawn,Od]
   have O:Ur (Kc (45::UInt8.ofNat d::Od l))=true:=by
    unfold Ur;rw[M7];rfl
   have J:(dgs (Kc (45::UInt8.ofNat d::Od l))).data.toList=UInt8.ofNat d::Od l:=by
    unfold dgs;rw[O];exact GS 45 _
   have G:(dgs (Kc (45::UInt8.ofNat d::Od l))).size=l.length+1:=by
    have h5:(dgs (Kc (45::UInt8.ofNat d::Od l))).data.toList.length=(dgs (Kc (45::UInt8.ofNat d::Od l))).size:=by simp
    rw[<-h5,J];simp[Od]
   have hb:(Kc (45::UInt8.ofNat d::Od l)).data.toList=45::UInt8.ofNat d::Od l:=by simp[Kc]
   rw[K];refine⟨?_,?_⟩
   ·unfold Ol;rw[J,G];have R:(UInt8.ofNat d::Od l).all E5=true:=by simpa[Od]using j
    rw[R];have:l.length+1<=2500:=by simpa using h2
    simp[this,q]
   rw[Jk,hb];simp
theorem Gc.bar{B g:Nat}{w':World}{v:Value}{l:List Nat}(h:Gc B w v l)(hb:Bar g w w')(hg:g<B):Gc B w' v l:=by
 obtain⟨a,G,rfl,hl,j,J,R⟩:=h;refine⟨a,G,rfl,hl,j,J,?_⟩
 rcases R with rfl|⟨b,E,rfl,K,q,O⟩
 ·exact .inl rfl
 refine .inr ⟨b,E,rfl,K,Jn q hb.size,fun i hi=>?_⟩;rw[hb.cell (p:=⟨b,E+i,none⟩) q (by show b≠g;omega)];exact O i hi
theorem Gs.bar{B g:Nat}{w':World}{z:Value}{x:Int}{n:Nat}(h:Gs B w z x n)(hb:Bar g w w')(hg:g<B):Gs B w' z x n:=by
 obtain⟨neg,t,⟨q,E,j⟩,e,hl⟩:=h;refine⟨neg,t,⟨q,E,?_⟩,e,hl⟩
 rcases j with⟨j,v,rfl,G⟩|j
 ·exact .inl ⟨j,v,rfl,G.bar hb hg⟩
 exact .inr j
theorem XX(g N k n:Nat)(x:Int)(w:World)(h:Ux g N w k)(hx:x=(n:Nat))(hk:k<=1000000000)(hn:1<=n)(hn2:n<=2500) :
 Calls prog 94 #[.pointer (some ⟨g,0,none⟩),.int .i64 x] w fun e w'=>∃(u:ByteArray) (k':Nat),e=.returned (.string u)/\Ol u=true/\G9 u≠0/\k'<=k+6010/\Ux g N w' k'/\Bar g w w':=by
 subst hx;refine(ON g N k n w h hk hn (by omega)).mono ?_;rintro e w' ⟨s,q,k',rfl,K,E,G,O,J,h6⟩;obtain⟨j,i2⟩:=KW s q E G (by omega);exact⟨_,k',rfl,j,IR _ j i2,by omega,J,h6⟩
theorem MO:prog.globalNamed "loop.example/g00007/impl.limbTens" = some 8:=by kernel_rfl
theorem ME:(prog.globals[8]?).map (·.type)=some 292:=by kernel_rfl
def Fw:List Int:=[100000000,10000000,1000000,100000,10000,1000,100,10,1]
theorem RL(j:Nat)(h:j<9):Fw.getD j 0=(tens j:Nat):=by
 match j,h with
 | 0,_|1,_|2,_|3,_|4,_|5,_|6,_|7,_|8,_=>rfl
theorem YW {W:World}{n0:String}{d0:DataW Unit}{L:List (String×DataW Unit)}(h:laidMet prog ((n0,d0)::("loop.example/g00007/impl.limbTens",Rows.laid_loop_example_g00007_impl_limbTens)::L) W):LT W:=by
 obtain⟨ps,⟨g0,t0,V,f0,p0,q0,_,_,_,_,⟨g,t,cs,G,p,q,K,ht,hv,hd,_,_⟩,_⟩,_⟩:=h;obtain rfl:=Option.some.inj (MO.symm.trans K);obtain rfl:=Option.some.inj (ME.symm.trans ht);obtain⟨xs,m,_,ex,_,hl,E⟩:=DataW.trod_array underlying292 hd;have c5:prog.cellsOf 152=1:=by kernel_rfl
 intro r R;have J:=E r R;rw[c5,Nat.mul_one,Jg (by omega)]at J;obtain⟨z,Y,Z,_⟩:=DataW.trod_int underlying152 J;have O:Fw.length=9:=rfl;have e3:(xs.map (·.1))=Fw.map fun n=>.lit (.int .u32 n):=(DataW.agg.inj (Prod.mk.inj ex).1).symm;have j:(xs.map (·.1))[r]? = (Fw.map fun n=>(DataW.lit (.int .u32 n):DataW Unit))[r]? := by rw[e3]
 rw[Yt,Yt,Jg (by omega:r<xs.length),Jg (by omega:r<Fw.length),Z]at j;have hz:z=Fw.getD r 0:=by
  simp only[Option.map_some,Option.some.injEq,DataW.lit.injEq,Lit.int.injEq,true_and]at j;rw[j,List.getD,Jg (by omega:r<Fw.length)];rfl
 rw[Vp K hv r,<-RL r R,<-hz];have:cs.toList[r]? = some (.int .u32 z):=by
  have h0:((cs.toList.drop r).take 1)[0]? = some (.int .u32 z):=by rw[Y];rfl
  simpa using h0
 simpa using this
open ChangeShapes WideShapes ChangeAt RowKit Deep Proofs.Tryz
theorem FP:prog.globalNamed "loop.example/g00007/impl.noSteps" = some 2:=by kernel_rfl
theorem FJ:(prog.globals[2]?).map (·.type)=some 258:=by kernel_rfl
theorem FH:prog.cellsOf 258=4:=by kernel_rfl
theorem LA:prog.cellsOf 256=2:=by kernel_rfl
theorem MT:prog.cellsOf 2=1:=by kernel_rfl
theorem Pq{H:Type}{enc:TypeId×Value->H}{base:Nat}{spare:Nat->Bool}{held:Bool}{fuel:Nat}{cs:List Value}{a c:Int}{x:DataW H×List MemPlace}
 (h:DataW.trod enc prog w base spare held fuel 256 cs=some x) (hx:x.1=.agg [.lit (.int .i64 a),.lit (.int .i64 c)]):cs=[.int .i64 a,.int .i64 c]:=by
 obtain⟨xs,m,_,rfl,hl,hn,j⟩:=DataW.trod_array underlying256 h;rw[LA]at hl;have q:=j 0 (by decide);have E:=j 1 (by decide);rw[MT]at q E
 match xs,hn with
 | [y0,y1],_=>
   obtain⟨O,i0,J,_⟩:=DataW.trod_int underlying2 (show DataW.trod _ prog w base spare held m 2 _=some y0 from q);obtain⟨R,G,K,_⟩:=DataW.trod_int underlying2 (show DataW.trod _ prog w base spare held m 2 _=some y1 from E);subst J K;simp only[Za,Zq,DataW.agg.injEq,List.cons.injEq,DataW.lit.injEq,Lit.int.injEq,true_and,and_true]at hx;obtain⟨rfl,rfl⟩:=hx
   match cs,hl with
   | [c0,c1],_=>
     simp at i0 G;rw[i0,G]
theorem ZE {W:World}{L:List (String×DataW Unit)}(h:laidMet prog (("loop.example/g00007/impl.noSteps",Rows.laid_loop_example_g00007_impl_noSteps)::L) W):NS W:=by
 obtain⟨ps,⟨g0,t0,G,f0,E,q0,q,K,O,J,_,_⟩,_⟩:=h;obtain rfl:=Option.some.inj (FP.symm.trans q);obtain rfl:=Option.some.inj (FJ.symm.trans K);have j:=Vp q O;obtain⟨y0,y1,n,hx,hl,Z,h1⟩:=trod_struct2 underlying258 J;rw[FH]at hl;obtain⟨l⟩:=G;simp only[Rows.laid_loop_example_g00007_impl_noSteps,Prod.mk.injEq,DataW.agg.injEq,List.cons.injEq,and_true]at hx;obtain⟨⟨R,V⟩,_⟩:=hx;have E:=Pq Z R.symm;have Y:=Pq h1 V.symm;rw[LA]at E Y
 match l,hl with
 | [c0,c1,c2,c3],_=>
   simp at E Y;obtain⟨rfl,rfl⟩:=E;obtain⟨rfl,rfl⟩:=Y;exact⟨j 0,j 1,j 2,j 3⟩
end Go.Proofs.YtfkagjelljnpdaaGreatDoor.Q
