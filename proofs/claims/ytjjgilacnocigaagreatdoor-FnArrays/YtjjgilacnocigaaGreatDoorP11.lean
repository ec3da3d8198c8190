import Derived.Test.YtjjgilacnocigaaGreatDoorP10
namespace Go.Proofs.YtjjgilacnocigaaGreatDoor.Q
open ChangeShapes WideShapes ChangeAt RowKit Proofs.Tryz
theorem Qv (s:ByteArray)(h:Ow s=true):(Rf s).length<=280:=by
 have j:(dgs s).size<=2500:=by
  by_cases d:2500<(dgs s).size
  ·rw[I8 s _ rfl d] at h;cases h
  omega
 have h3:=Kl (Eo (dgs s).data.toList);have h4:(Eo (dgs s).data.toList).length=X8 (dgs s).data.toList.length:=by simp[Eo]
 have h5:(dgs s).data.toList.length=(dgs s).size:=by simp
 unfold Rf;rw[h4,h5] at h3;have D:X8 (dgs s).size<=280:=by unfold X8;omega
 omega
theorem Fx (B:Nat)(z:Value)(x:Int)(n:Nat)(w:World)(h:N8 B w z x n)(hn:n<=600)(hLT:LT w) :
 Calls prog 135 #[z] w fun e w'=>∃ u,e=.returned (.string u)/\Ec x u/\Up w w':=by
 obtain⟨neg,v,t,rfl,j,E,F,hl⟩:=h;have d:Kx t:=by obtain⟨_,_,_,_,_,h,_⟩:=j;exact h
 refine (UY B _ v t w j (by omega) hLT).mono ?_;rintro e w' ⟨rfl,D⟩;exact⟨_,rfl,⟨neg,t,d,E,F,rfl⟩,D⟩
theorem Iy (n:Bool)(l:List Nat)(ht:Oq l):sg n (val l)=0↔l=[]:=by
 constructor
 ·intro h;apply Classical.byContradiction;intro d;have:=Gp l ht d
  cases n<;>simp[sg] at h<;>omega
 rintro rfl
 cases n<;>simp[sg,val]
theorem Ht (B:Nat)(za zb:Value)(x y:Int)(n m:Nat)(w:World)(hBw:B<=w.heap.size)(ha:N8 B w za x n)(hb:N8 B w zb y m)(hy:y≠0)(hn:n<=90000)(hm:m<=90000)(hSP:SP w) :
 Calls prog 133 #[za,zb] w fun e w'=>∃ z1 z2 q r,e=.returned (.tuple #[z1,z2])/\N8 B w' z1 q (n+2)/\N8 B w' z2 r (m+3)/\Nf x y q r/\Up w w':=by
 obtain⟨K,T,a,rfl,j,O,rfl,I⟩:=ha;obtain⟨E,U,b,rfl,D,F,rfl,J⟩:=hb;have d:b≠[]:=fun h=>hy ((Iy E b F).2 h);rw[<-Nr K a,<-Nr E b];refine (YV B _ _ T U a b w hBw j D (by omega) (by omega) O F d hSP).mono ?_;rintro e w' ⟨z1,z2,q,r,G,H,h3,h4,h5⟩;exact⟨z1,z2,q,r,G,H.mono O1 (by omega),h3.mono O1 (by omega),h4,h5⟩
def Tr (s t u v:ByteArray):Prop:=if Ow s=true/\Ow t=true/\K9 t≠0 then ∃ q r,Nf (K9 s) (K9 t) q r/\Ec q u/\Ec r v else u=Kq []/\v=Kq []
theorem Tr.eq {s t u v u' v':ByteArray}(h:Tr s t u v)(h':Tr s t u' v'):u=u'/\v=v':=by
 unfold Tr at h h'
 split at h
 ·rename_i hc;rw[if_pos hc] at h';obtain⟨q,r,d,j,h3⟩:=h;obtain⟨E,F,D,k2,k3⟩:=h';obtain⟨rfl,rfl⟩:=Cn d D;exact⟨j.eq k2,h3.eq k3⟩
 rename_i hc;rw[if_neg hc] at h';exact⟨by rw[h.1,h'.1],by rw[h.2,h'.2]⟩
theorem Qz (B:Nat)(za zb:Value)(na nb:Bool)(a b:List Nat)(w:World)(hBw:B<=w.heap.size)(hza:Ej B w za na a)(hzb:Ej B w zb nb b)(hla:a.length<=100000)(hlb:b.length<=100000)(hne:b≠[]) :
 Calls prog 114 #[za,zb] w fun e w'=>∃ z1 z2 q r,e=.returned (.tuple #[z1,z2])/\(Nb w.heap.size w' z1 q/\Nb w.heap.size w' z2 r)/\Nf (sg na (val a)) (sg nb (val b)) q r/\Up w w':=by
 have d:=hza.1;have j:=hzb.1;have D:=hzb.2.1;obtain⟨x,xn,Z,la,J,rfl,O,U⟩:=hza.form2;obtain⟨y,yn,pb,lb,K,rfl,T,V⟩:=hzb.form2
 by_cases G:la=0/\lb=0
 ·have E:=U G.1;have F:=V G.2;rw[E.2,F.2];have H:=Au na a d E.1;have I:=Au nb b j F.1;exact ZU _ _ w H.1 H.2 I.1 I.2 (fun h=>hne ((Iy nb b D).1 h))
 have Y:((la:Int)==0)=false∨(((la:Int)==0)=true/\((lb:Int)==0)=false):=by
  by_cases h:la=0
  ·exact .inr ⟨by rw[Jw];omega,by rw[Jd];omega⟩
  exact .inl (by rw[Jd];omega)
 have h:=XB B x y xn yn Z la J pb lb K na nb a b w hBw Y hza hzb _ _ O T hla hlb hne;rw[Nr,Nr] at h;exact h
theorem XV (l:List UInt8)(a:Nat)(h:1<=a):1<=l.foldl (fun a c=>a*10+(c.toNat - 48)) a:=by
 induction l generalizing a with
 | nil=>exact h
 | cons c l ih=>exact ih _ (by show 1<=a*10+(c.toNat - 48);omega)
theorem BP (c:UInt8)(l:List UInt8)(h:49<=c.toNat):1<=N7 (c::l):=XV l _ (by show 1<=0*10+(c.toNat - 48);omega)
theorem BV (d:List UInt8)(c:UInt8)(l:List UInt8)(hd:d=c::l)(hc:49<=c.toNat):Ov (Eo d)≠[]:=by
 obtain⟨k,j⟩:∃ k,X8 d.length=k+1:=⟨X8 d.length - 1,by rw[hd];unfold X8;simp;omega⟩;have hm:1<=d.length - 9*k/\d.length - 9*k<=9:=by unfold X8 at j;rw[hd] at j ⊢;simp at j ⊢;omega
 have E:chunk d k≠0:=by
  unfold chunk;rw[show d.length - 9*k - 9=0 by omega,Y9];obtain⟨m,D⟩:∃ m,d.length - 9*k=m+1:=⟨d.length - 9*k - 1,by omega⟩;rw[D,hd,List.take_succ_cons];have:=BP c (l.take m) hc;omega
 unfold Eo;rw[j,Zw,Zc,Vc,Vs,Np _ _ E];simp
theorem PO (t:ByteArray)(h:Ow t=true)(h0:(t.toList==[48])=false):K9 t≠0:=by
 intro F;have hl:Rf t=[]:=(Iy _ _ (O8 _)).1 F;unfold Ow at h;rw[h0] at h;simp only[Yd,Bool.or_false,Y7,Bool.not_eq_true',Jy,Zt] at h;obtain⟨⟨⟨G,_⟩,h3⟩,h4⟩:=h
 cases j:(dgs t).data.toList with
 | nil=>
   have:(dgs t).size=0:=by show (dgs t).data.size=0;rw[<-Array.length_toList,j];rfl
   omega
 | cons c l=>
   rw[j] at h3 h4;have D:=h3 c (by simp);simp[Ey] at D;have d:c≠48:=by simpa using h4
   have E:c.toNat≠48:=fun e=>d (UInt8.toNat_inj.1 e);exact BV _ c l j (by omega) hl
end Go.Proofs.YtjjgilacnocigaaGreatDoor.Q
