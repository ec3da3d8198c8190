import Derived.Test.YtjjgilacnocigaaGreatDoorP05
set_option maxRecDepth 100000
set_option maxHeartbeats 1000000
namespace Go.Proofs.YtjjgilacnocigaaGreatDoor.Q
open ChangeShapes WideShapes ChangeAt RowKit Proofs.Tryz
theorem Ej.form2 {B:Nat}{w:World}{z:Value}{na:Bool}{a:List Nat}(h:Ej B w z na a):∃ x xn p l c,z=.agg #[.int .i64 x,.bool xn,.slice p l c]/\Rg x xn l=Ko na a/\(l=0->a.length<=2/\z=.agg #[.int .i64 (sg na (val a)),.bool false,.slice none 0 0]):=by
 obtain⟨d,j,h3⟩:=h
 rcases h3 with⟨h3,v,rfl,p,c,rfl,_⟩|⟨h3,rfl⟩
 ·refine⟨_,_,_,_,_,rfl,?_,fun e=>by omega⟩;unfold Rg Ko;have:0<a.length:=by omega
  simp[this]
 exact⟨_,_,_,_,_,rfl,(Rm na a h3 d j).symm,fun _=>⟨h3,rfl⟩⟩
theorem Sf (B:Nat)(za zb:Value)(na nb:Bool)(a b:List Nat)(w:World)(hBw:B<=w.heap.size)(hza:Ej B w za na a)(hzb:Ej B w zb nb b)(hla:a.length<=1000000)(hlb:b.length<=1000000) :
 Calls prog 153 #[za,zb] w fun e w'=>∃ z,e=.returned z/\Nb w.heap.size w' z (sg na (val a)+sg nb (val b))/\Up w w':=by
 have F:=hza.1;have G:=hzb.1;obtain⟨x,O,J,la,j,rfl,E,ga⟩:=hza.form2;obtain⟨y,T,K,lb,D,rfl,d,gb⟩:=hzb.form2
 by_cases Y:la=0/\lb=0
 ·have U:=ga Y.1;have V:=gb Y.2;rw[U.2,V.2];have l1:=Au na a F U.1;have l2:=Au nb b G V.1;exact ZY _ _ w l1.1 l1.2 l2.1 l2.2
 have I:((la:Int)==0)=false∨(((la:Int)==0)=true/\((lb:Int)==0)=false):=by
  by_cases h:la=0
  ·exact .inr ⟨by rw[Jw];omega,by rw[Jd];omega⟩
  exact .inl (by rw[Jd];omega)
 rw[<-Nr na a,<-Nr nb b]
 by_cases Z:Ko nb b=Ko na a
 ·rw[Z] at d ⊢;exact KL B x y O T J la j K lb D na nb a b w hBw I hza hzb _ E d hla hlb
 have H:Ko nb b=!Ko na a:=by revert Z;cases Ko nb b<;>cases Ko na a<;>simp
 rw[H] at d ⊢
 by_cases hc:0<=En a b
 ·exact CV B x y O T J la j K lb D na nb a b w hBw I hza hzb _ E d hla hlb hc
 exact CU B x y O T J la j K lb D na nb a b w hBw I hza hzb _ E d hla hlb (by omega)
theorem Sb (B:Nat)(za zb:Value)(na nb:Bool)(a b:List Nat)(w:World)(hBw:B<=w.heap.size)(hza:Ej B w za na a)(hzb:Ej B w zb nb b)(hla:a.length<=1000000)(hlb:b.length<=1000000) :
 Calls prog 152 #[za,zb] w fun e w'=>∃ z,e=.returned z/\Nb w.heap.size w' z (sg na (val a) - sg nb (val b))/\Up w w':=by
 have T:=hza;have U:=hzb;obtain⟨x,xn,pa,la,Y,rfl⟩:=hza.shape;obtain⟨y,yn,pb,lb,Z,rfl⟩:=hzb.shape;have H:Hid (a.length<=1000000/\b.length<=1000000):=⟨hla,hlb⟩;have HX:=Gv w x xn pa la Y y yn pb lb Z 72;obtain⟨E,j⟩:=O2 (((w.alloc (.cells #[.int .i64 x,.bool xn,.slice pa la Y] 72)).alloc (.cells #[.int .i64 y,.bool yn,.slice pb lb Z] 72)).alloc (.cells #[.int .i64 0,.bool false,.slice none 0 0] 72));have b9:=Em j;have D:Up w E:=by rw[<-j];exact Ou (Ou (Oo _ _) _) _
 have b5:=Em D;have O:E.heap.size=w.heap.size+3:=by rw[<-j];simp
 rw[j] at HX;have HS:=Em O;have b7:=Em hBw;have F:Hid (∀ W,Up E W->Boxes w.heap.size W x xn pa la Y y yn pb lb Z):=fun W hW=>HX.bl (by omega) hW;have c7:Hid (∀ W,Up E W->Ej B W (.agg #[.int .i64 x,.bool xn,.slice pa la Y]) na a):=fun W hW=>(hza.bl D).bl hW;have c8:Hid (∀ W,Up E W->Ej B W (.agg #[.int .i64 y,.bool yn,.slice pb lb Z]) nb b):=fun W hW=>(hzb.bl D).bl hW;have I:Hid (sg na (val a) - sg nb (val b)=sg na (val a)+sg (!nb) (val b)):=by
  unfold Hid
  rw[NY];omega
 rw[I.o];obtain⟨a0,a1,a2,b0,b1,b2,r0,r1,r2,f0,f1,f2⟩:=HX;clear j O hza hzb T U D hBw hla hlb I
 go_in
 go_wp2_with fail
 rw[b9.o]
 go_region_with (first
  | (go_at_call 113;refine (Rp B _ nb b _ (c8.o _ ?_)).mono ?_
     ·exact (Jj _ _).drew
     rintro e wm ⟨zm,rfl,V,K⟩;have d:Hid (Up E wm):=(Jj _ E).drew.trans K;have d3:=Hd V;obtain⟨c0,c1,c2,d0,d1,d2,s0,s1,s2,g0,g1,g2⟩:=F.o wm d.o;clear V K)
  | (go_at_call 153;refine (Sf B _ _ na (!nb) a b _ ?_ (c7.o _ d.o) d3.o H.o.1 H.o.2).mono ?_
     ·have:=d.o.size;have:=HS.o;have:=b7.o;omega
     rintro e we ⟨z,rfl,hN,J⟩;have HN:Hid (Nb (w.heap.size+3) we z (sg na (val a)+sg (!nb) (val b))):=hN.mono (by have:=d.o.size;have:=HS.o;omega);have G:=d.up J;have b6:Hid (Up w we):=b5.o.trans (G.o.mono (by have:=HS.o;omega));obtain⟨c0,c1,c2,d0,d1,d2,s0,s1,s2,g0,g1,g2⟩:=F.o we G.o;obtain⟨z0,zn,za,zl,zc,d5⟩:=hN.shape;subst d5;clear J hN))
 all_goals
  try simp only[Yg,Yb,J0,Act.put,Ja,Jb,Jc]
  go_wp2
  refine Jh ?_ rfl ⟨_,rfl,(((HN.o.setCell _ _ (by simp)).setCell _ _ (by simp)).setCell _ _ (by simp)).mono (by omega),((b6.o.setCell (by simp;omega) _).setCell (by simp;omega) _).setCell (by simp;omega) _⟩;simp[results,results152,go_sem,s0,s1,s2]
def K9 (s:ByteArray):Int:=sg (Ki s) (val (Rf s))
def Ec (x:Int)(u:ByteArray):Prop:=∃ neg t,Kx t/\Oq t/\sg neg (val t)=x/\u=Cb (Ko neg t) t
theorem Ec.eq {x:Int}{u v:ByteArray}(hu:Ec x u)(hv:Ec x v):u=v:=by
 obtain⟨n,t,D,j,h3,rfl⟩:=hu;obtain⟨m,r,E,k2,k3,rfl⟩:=hv;have d:val t=val r:=by
  have h:=h3.trans k3.symm
  cases n<;>cases m<;>simp[sg] at h<;>omega
 obtain rfl:=AK t r D E j k2 d;have hn:Ko n t=Ko m t:=by
  by_cases h:t=[]
  ·subst h;simp[Ko]
  have F:=Gp t j h;have h:=h3.trans k3.symm
  cases n<;>cases m<;>simp[sg] at h<;>first|rfl|omega
 rw[hn]
theorem BZ (s:ByteArray)(h:Ow s=true):(Rf s).length<=300:=by
 have j:(dgs s).size<=2500:=by
  by_cases d:2500<(dgs s).size
  ·rw[I8 s _ rfl d] at h;cases h
  omega
 have h3:=Kl (Eo (dgs s).data.toList);have h4:(Eo (dgs s).data.toList).length=X8 (dgs s).data.toList.length:=by simp[Eo]
 have h5:(dgs s).data.toList.length=(dgs s).size:=by simp
 unfold Rf;rw[h4,h5] at h3;have D:X8 (dgs s).size<=300:=by unfold X8;omega
 omega
end Go.Proofs.YtjjgilacnocigaaGreatDoor.Q
