import Derived.IntWalk
import Derived.Deep.DeepCutAuto
import Derived.Test.YtdmdmgfjpomdbaaGreatDoorP08
import Derived.Deep.LoopGhost
import Derived.Laws.StructEq
import Derived.Laws.Tables
set_option maxRecDepth 100000
set_option maxHeartbeats 4000000
namespace Go.Proofs.YtdmdmgfjpomdbaaGreatDoor.Q
open ChangeShapes WideShapes ChangeAt RowKit Proofs.Tryz
variable {W:World}{g:Nat}{l r:List Value}{v0 v1 v2 v3:Value}
def Bx (W:World)(g:Nat)(l:List Value):Prop:=∃ ty,W.heap[g]? = some (.cells l.toArray ty (0,0))
theorem Bx.lt (h:Bx W g l):g<W.heap.size:=by
 obtain⟨t,h⟩:=h;exact (Jv.1 h).1
theorem Bx.cell (h:Bx W g l)(i:Nat):W.cell? ⟨g,i,none⟩=l[i]? := by
 obtain⟨t,h⟩:=h;simp[World.cell?,h]
theorem Bx.frozen (h:Bx W g l)(i:Nat):W.frozen? ⟨g,i,none⟩=false:=by
 obtain⟨t,h⟩:=h;simp[World.frozen?,h]
theorem Bx.set (h:Bx W g l)(i:Nat)(v:Value):Bx (W.setCell ⟨g,i,none⟩ v) g (l.set i v):=by
 obtain⟨t,h⟩:=h;refine⟨t,?_⟩;obtain⟨d,j⟩:=Jv.1 h
 show (W.heap.modify g _)[g]? = _
 rw[Vv (by rw[Z9];exact d),Vw,j];simp
theorem Bx.k2 (h:Bx W g (v0::v1::r)):W.cell? ⟨g,0,none⟩=some v0/\W.cell? ⟨g,1,none⟩=some v1:=⟨h.cell 0,h.cell 1⟩
theorem Bx.k3 (h:Bx W g (v0::v1::v2::r)):W.cell? ⟨g,0,none⟩=some v0/\W.cell? ⟨g,1,none⟩=some v1/\W.cell? ⟨g,2,none⟩=some v2:=⟨h.cell 0,h.cell 1,h.cell 2⟩
theorem Bx.k4 (h:Bx W g (v0::v1::v2::v3::r)):W.cell? ⟨g,0,none⟩=some v0/\W.cell? ⟨g,1,none⟩=some v1/\W.cell? ⟨g,2,none⟩=some v2/\W.cell? ⟨g,3,none⟩=some v3:=⟨h.cell 0,h.cell 1,h.cell 2,h.cell 3⟩
theorem Bx.k5 {v4:Value}(h:Bx W g (v0::v1::v2::v3::v4::r)):W.cell? ⟨g,0,none⟩=some v0/\W.cell? ⟨g,1,none⟩=some v1/\W.cell? ⟨g,2,none⟩=some v2/\W.cell? ⟨g,3,none⟩=some v3/\W.cell? ⟨g,4,none⟩=some v4:=⟨h.cell 0,h.cell 1,h.cell 2,h.cell 3,h.cell 4⟩
theorem Bx.k6 {v4 v5:Value}(h:Bx W g (v0::v1::v2::v3::v4::v5::r)):W.cell? ⟨g,0,none⟩=some v0/\W.cell? ⟨g,1,none⟩=some v1/\W.cell? ⟨g,2,none⟩=some v2/\W.cell? ⟨g,3,none⟩=some v3/\W.cell? ⟨g,4,none⟩=some v4/\W.cell? ⟨g,5,none⟩=some v5:=⟨h.cell 0,h.cell 1,h.cell 2,h.cell 3,h.cell 4,h.cell 5⟩
theorem Bx.f2 (h:Bx W g r):W.frozen? ⟨g,0,none⟩=false/\W.frozen? ⟨g,1,none⟩=false:=⟨h.frozen 0,h.frozen 1⟩
theorem Bx.f3 (h:Bx W g r):W.frozen? ⟨g,0,none⟩=false/\W.frozen? ⟨g,1,none⟩=false/\W.frozen? ⟨g,2,none⟩=false:=⟨h.frozen 0,h.frozen 1,h.frozen 2⟩
theorem Bx.f4 (h:Bx W g r):W.frozen? ⟨g,0,none⟩=false/\W.frozen? ⟨g,1,none⟩=false/\W.frozen? ⟨g,2,none⟩=false/\W.frozen? ⟨g,3,none⟩=false:=⟨h.frozen 0,h.frozen 1,h.frozen 2,h.frozen 3⟩
theorem Bx.f5 (h:Bx W g r):W.frozen? ⟨g,0,none⟩=false/\W.frozen? ⟨g,1,none⟩=false/\W.frozen? ⟨g,2,none⟩=false/\W.frozen? ⟨g,3,none⟩=false/\W.frozen? ⟨g,4,none⟩=false:=⟨h.frozen 0,h.frozen 1,h.frozen 2,h.frozen 3,h.frozen 4⟩
theorem Bx.f6 (h:Bx W g r):W.frozen? ⟨g,0,none⟩=false/\W.frozen? ⟨g,1,none⟩=false/\W.frozen? ⟨g,2,none⟩=false/\W.frozen? ⟨g,3,none⟩=false/\W.frozen? ⟨g,4,none⟩=false/\W.frozen? ⟨g,5,none⟩=false:=⟨h.frozen 0,h.frozen 1,h.frozen 2,h.frozen 3,h.frozen 4,h.frozen 5⟩
theorem Bx.f7 (h:Bx W g r):W.frozen? ⟨g,0,none⟩=false/\W.frozen? ⟨g,1,none⟩=false/\W.frozen? ⟨g,2,none⟩=false/\W.frozen? ⟨g,3,none⟩=false/\W.frozen? ⟨g,4,none⟩=false/\W.frozen? ⟨g,5,none⟩=false/\W.frozen? ⟨g,6,none⟩=false:=⟨h.frozen 0,h.frozen 1,h.frozen 2,h.frozen 3,h.frozen 4,h.frozen 5,h.frozen 6⟩
theorem Bx.other (h:Bx W g l)(p:Addr)(hp:p.block≠g)(v:Value):Bx (W.setCell p v) g l:=by
 obtain⟨t,h⟩:=h;exact⟨t,(Jh W p v g (fun e=>hp e.symm)).trans h⟩
theorem Bx.bl {W':World}{N:Nat}(h:Bx W g l)(hN:g<N)(hb:Below N W W'):Bx W' g l:=by
 obtain⟨t,h⟩:=h;exact⟨t,(hb.block g hN).trans h⟩
theorem Bx.alloc (h:Bx W g l)(o:Obj):Bx (W.alloc o) g l:=h.bl h.lt (Oz W o)
theorem Bx.drew (h:Bx W g l):Bx W.drew g l:=h.bl h.lt (Je _ W).drew
theorem Oi (W:World)(l:List Value)(ty:TypeId):Bx (W.alloc (.cells l.toArray ty)) W.heap.size l:=⟨ty,Vg⟩
theorem US (B:Nat)(v:Value)(l:List Nat)(i:Nat)(w:World)(h:Kz B w v l)(_hi:i<=1000000) :
 Calls prog 236 #[v,.int .i64 (i:Nat)] w fun e w'=>e=.returned (.int .i64 (l.getD i 0:Nat))/\w'=w:=by
 obtain⟨p,c,rfl,_⟩:=id h;obtain⟨_,_,_,A,hc⟩:=h.cells
 by_cases hl:i<l.length
 ·obtain⟨b,G,rfl,hb,d⟩:=hc i hl;have E:=U9 l A i hl;obtain⟨x,j⟩:=Oa (l.getD i 0);rw[j] at d E ⊢;clear j hc h
  go_in
  go_wp2
  go_ret
  exact⟨rfl,rfl⟩
 have e:l.getD i 0=0:=by rw[Ji,Ym (by omega)];rfl
 rw[e];clear e hc h
 go_in
 go_wp2
 go_ret
 exact⟨rfl,rfl⟩
theorem AV (n:Nat)(M:Nat)(h:n*n<M*M):n<M:=by
 rcases Nat.lt_or_ge n M with d|d
 ·exact d
 exact absurd h (Nat.not_lt.2 (Ug d d))
structure LSt (x0 y0:Nat)(s:Bool)(p q r t x y:Nat):Prop where
 ex:x0=t*x+q*y
 ey:y0=r*x+p*y
 det:if s then p*t=q*r+1 else q*r=p*t+1
 low:if s then q<=x/\r<=y else p<=x/\t<=y
 bp:p<1000000000
 bq:q<1000000000
 br:r<1000000000
 bt:t<1000000000
 le:y<=x
 go:(s=true/\p=1/\q=0/\r=0/\t=1)∨(1<=r/\(if s then y+t+q<x else y+r+p<x))
theorem PP (x0 y0:Nat)(h:y0<=x0):LSt x0 y0 true 1 0 0 1 x0 y0:=
 ⟨by omega,by omega,by simp,by simp,by omega,by omega,by omega,by omega,h,.inl ⟨rfl,rfl,rfl,rfl,rfl⟩⟩
theorem Ra (m y x0:Nat)(h:m*y<=x0)(h1:m<=y)(hx:x0<1000000000000000000):m<1000000000:=by
 have h2:m*m<=m*y:=Yb m h1;exact AV m 1000000000 (by omega)
theorem PD (x0 y0 p q r t x y k:Nat)(h:LSt x0 y0 true p q r t x y)(hx0:x0<1000000000000000000)(hle:y0<=x0)(hy:r<y)
 (k1:k*(y - r)<=x+p) (k2:x+p<k*(y - r)+(y - r)) (k3:k*(y+t)<=x - q) (k4:x - q<k*(y+t)+(y+t)) :
 k*y<=x/\LSt x0 y0 false r t (p+k*r) (q+k*t) y (x - k*y):=by
 obtain⟨ex,ey,det,low,bp,bq,br,bt,le,go⟩:=h;simp only[if_true] at det low go;obtain⟨V,I⟩:=low;have J:k*(y - r)+k*r=k*y:=by rw[<-Yh,Nat.sub_add_cancel I]
 have e2:k*(y+t)=k*y+k*t:=Yh _ _ _;obtain⟨z,A⟩:∃ z,x=k*y+z:=⟨x - k*y,by omega⟩;have j:x - k*y=z:=by omega
 have f1:x0=(q+k*t)*y+t*z:=by rw[ex,A];grind
 have f2:y0=(p+k*r)*y+r*z:=by rw[ey,A];grind
 have K:q+k*t<=z:=by omega
 have M:z+(p+k*r)+r<y:=by omega
 have d:1<=p+k*r:=by
  rcases go with⟨_,U,_⟩|⟨G,O⟩
  ·omega
  have:1<=k:=by
   rcases Zw k with rfl|E
   ·simp at k4;omega
   exact E
  have:=Ug this G;omega
 rw[j];refine⟨by omega,f1,f2,?_,?_,br,bt,?_,?_,by omega,.inr ⟨d,?_⟩⟩
 ·simp only[Zb,if_false];grind
 ·simp only[Zb,if_false];omega
 ·exact Ra (p+k*r) y y0 (by omega) (by omega) (by omega)
 ·exact Ra (q+k*t) y x0 (by omega) (by omega) (by omega)
 simp only[Zb,if_false];omega
theorem XO (x0 y0 p q r t x y k:Nat)(h:LSt x0 y0 false p q r t x y)(hx0:x0<1000000000000000000)(hle:y0<=x0)(hy:t<y)
 (k1:k*(y+r)<=x - p) (k2:x - p<k*(y+r)+(y+r)) (k3:k*(y - t)<=x+q) (k4:x+q<k*(y - t)+(y - t)) :
 k*y<=x/\LSt x0 y0 true r t (p+k*r) (q+k*t) y (x - k*y):=by
 obtain⟨ex,ey,det,low,bp,bq,br,bt,le,go⟩:=h;simp only[Zb,if_false] at det low go;obtain⟨U,I⟩:=low;have J:k*(y - t)+k*t=k*y:=by rw[<-Yh,Nat.sub_add_cancel I]
 have e2:k*(y+r)=k*y+k*r:=Yh _ _ _;obtain⟨z,A⟩:∃ z,x=k*y+z:=⟨x - k*y,by omega⟩;have j:x - k*y=z:=by omega
 have f1:x0=(q+k*t)*y+t*z:=by rw[ex,A];grind
 have f2:y0=(p+k*r)*y+r*z:=by rw[ey,A];grind
 have K:p+k*r<=z:=by omega
 have M:z+(q+k*t)+t<y:=by omega
 have d:1<=p+k*r:=by
  rcases go with⟨h,_⟩|⟨G,O⟩
  ·cases h
  have:1<=k:=by
   rcases Zw k with rfl|E
   ·simp at k2;omega
   exact E
  have:=Ug this G;omega
 rw[j];refine⟨by omega,f1,f2,?_,?_,br,bt,?_,?_,by omega,.inr ⟨d,?_⟩⟩
 ·simp only[if_true];grind
 ·simp only[if_true];omega
 ·exact Ra (p+k*r) y y0 (by omega) (by omega) (by omega)
 ·exact Ra (q+k*t) y x0 (by omega) (by omega) (by omega)
 simp only[if_true];omega
def ZZ (s:Bool)(n:Nat):Int:=if s then (n:Int) else -(n:Int)
def RV (A B C D:Int)(a b:Nat):Prop:=∃ a1 b1:Nat,A*a+B*b=a1/\C*a+D*b=b1/\Nat.gcd a1 b1=Nat.gcd a b/\b1<a1/\a1<=b
theorem PU (a b a1 b1 p q r t:Nat)(h1:a=t*a1+q*b1)(h2:b=r*a1+p*b1)(h3:Nat.gcd a b∣a1)(h4:Nat.gcd a b∣b1):Nat.gcd a1 b1=Nat.gcd a b:=by
 apply Nat.dvd_antisymm
 ·apply Nat.dvd_gcd
  ·rw[h1];exact Nat.dvd_add (Yz (Nat.gcd_dvd_left _ _) _) (Yz (Nat.gcd_dvd_right _ _) _)
  rw[h2];exact Nat.dvd_add (Yz (Nat.gcd_dvd_left _ _) _) (Yz (Nat.gcd_dvd_right _ _) _)
 exact Nat.dvd_gcd h3 h4
theorem VT (x0 y0 p q r t x y S a b a' b':Nat)(h:LSt x0 y0 true p q r t x y)(hg:1<=r/\y+t+q<x)(ha:a=x0*S+a')(hb:b=y0*S+b')(ha':a'<S)(hb':b'<S) :
 RV p (-q) (-r) t a b:=by
 obtain⟨ex,ey,det,low,bp,bq,br,bt,le,go⟩:=h;simp only[if_true] at det low;have G:p*x0=q*y0+x:=by rw[ex,ey];grind
 have e2:t*y0=r*x0+y:=by rw[ex,ey];grind
 have M:p*a=q*(y0*S)+x*S+p*a':=by rw[ha,Yh,<-Yw,G];grind
 have O:q*b=q*(y0*S)+q*b':=by rw[hb];grind
 have U:t*b=r*(x0*S)+y*S+t*b':=by rw[hb,Yh,<-Yw,e2];grind
 have V:r*a=r*(x0*S)+r*a':=by rw[ha];grind
 have m1:q*b'<=q*S:=Yb _ (by omega);have m2:r*a'<=r*S:=Yb _ (by omega);have m3:t*b'<=t*S:=Yb _ (by omega);have m4:(y+t+q+1)*S<=x*S:=Yg _ (by omega);have Y:r*S<=y*S:=Yg _ low.2;have Z:(y+t+q+1)*S=y*S+t*S+q*S+S:=by grind
 obtain⟨a1,d⟩:∃ a1,p*a=q*b+a1:=⟨x*S+p*a' - q*b',by omega⟩;obtain⟨b1,h2⟩:∃ b1,t*b=r*a+b1:=⟨y*S+t*b' - r*a',by omega⟩;have I:(a:Int)=t*a1+q*b1:=by
  have E:(p:Int)*a=q*b+a1:=by exact_mod_cast d
  have z2:(t:Int)*b=r*a+b1:=by exact_mod_cast h2
  have z3:(p:Int)*t=q*r+1:=by exact_mod_cast det
  grind
 have i2:(b:Int)=r*a1+p*b1:=by
  have E:(p:Int)*a=q*b+a1:=by exact_mod_cast d
  have z2:(t:Int)*b=r*a+b1:=by exact_mod_cast h2
  have z3:(p:Int)*t=q*r+1:=by exact_mod_cast det
  grind
 have J:a=t*a1+q*b1:=by exact_mod_cast I
 have K:b=r*a1+p*b1:=by exact_mod_cast i2
 have j:=Nat.gcd_dvd_left a b;have A:=Nat.gcd_dvd_right a b;refine⟨a1,b1,?_,?_,PU a b a1 b1 p q r t J K ?_ ?_,by omega,?_⟩
 ·have E:(p:Int)*a=q*b+a1:=by exact_mod_cast d
  grind
 ·have z2:(t:Int)*b=r*a+b1:=by exact_mod_cast h2
  grind
 ·exact (Nat.dvd_add_right (Yz A q)).1 (d ▸ Yz j p)
 ·exact (Nat.dvd_add_right (Yz j r)).1 (h2 ▸ Yz A t)
 have:=Yg a1 hg.1;omega
theorem OE (x0 y0 p q r t x y S a b a' b':Nat)(h:LSt x0 y0 false p q r t x y)(hg:1<=r/\y+r+p<x)(ha:a=x0*S+a')(hb:b=y0*S+b')(ha':a'<S)(hb':b'<S) :
 RV (-p) q r (-t) a b:=by
 obtain⟨ex,ey,det,low,bp,bq,br,bt,le,go⟩:=h;simp only[Zb,if_false] at det low;have G:q*y0=p*x0+x:=by rw[ex,ey];grind
 have e2:r*x0=t*y0+y:=by rw[ex,ey];grind
 have M:q*b=p*(x0*S)+x*S+q*b':=by rw[hb,Yh,<-Yw,G];grind
 have O:p*a=p*(x0*S)+p*a':=by rw[ha];grind
 have U:r*a=t*(y0*S)+y*S+r*a':=by rw[ha,Yh,<-Yw,e2];grind
 have V:t*b=t*(y0*S)+t*b':=by rw[hb];grind
 have m1:p*a'<=p*S:=Yb _ (by omega);have m2:t*b'<=t*S:=Yb _ (by omega);have m3:r*a'<=r*S:=Yb _ (by omega);have m4:(y+r+p+1)*S<=x*S:=Yg _ (by omega);have Y:t*S<=y*S:=Yg _ low.2;have Z:(y+r+p+1)*S=y*S+r*S+p*S+S:=by grind
 obtain⟨a1,d⟩:∃ a1,q*b=p*a+a1:=⟨x*S+q*b' - p*a',by omega⟩;obtain⟨b1,h2⟩:∃ b1,r*a=t*b+b1:=⟨y*S+r*a' - t*b',by omega⟩;have I:(a:Int)=t*a1+q*b1:=by
  have E:(q:Int)*b=p*a+a1:=by exact_mod_cast d
  have z2:(r:Int)*a=t*b+b1:=by exact_mod_cast h2
  have z3:(q:Int)*r=p*t+1:=by exact_mod_cast det
  grind
 have i2:(b:Int)=r*a1+p*b1:=by
  have E:(q:Int)*b=p*a+a1:=by exact_mod_cast d
  have z2:(r:Int)*a=t*b+b1:=by exact_mod_cast h2
  have z3:(q:Int)*r=p*t+1:=by exact_mod_cast det
  grind
 have J:a=t*a1+q*b1:=by exact_mod_cast I
 have K:b=r*a1+p*b1:=by exact_mod_cast i2
 have j:=Nat.gcd_dvd_left a b;have A:=Nat.gcd_dvd_right a b;refine⟨a1,b1,?_,?_,PU a b a1 b1 p q r t J K ?_ ?_,by omega,?_⟩
 ·have E:(q:Int)*b=p*a+a1:=by exact_mod_cast d
  grind
 ·have z2:(r:Int)*a=t*b+b1:=by exact_mod_cast h2
  grind
 ·exact (Nat.dvd_add_right (Yz j p)).1 (d ▸ Yz A q)
 ·exact (Nat.dvd_add_right (Yz A t)).1 (h2 ▸ Yz j r)
 have:=Yg a1 hg.1;omega
def MI (x0 y0:Nat)(A B C D x y:Int):Prop:=∃ (s:Bool) (p q r t X Y:Nat),A=ZZ s p/\B = -ZZ s q/\C = -ZZ s r/\D=ZZ s t/\x=X/\y=Y/\LSt x0 y0 s p q r t X Y
theorem CO (x0 y0:Nat)(h:y0<=x0):MI x0 y0 1 0 0 1 x0 y0:=⟨true,1,0,0,1,x0,y0,rfl,rfl,rfl,rfl,rfl,rfl,PP x0 y0 h⟩
theorem MB (x0 y0:Nat)(s:Bool)(p q r t x y:Nat)(h:LSt x0 y0 s p q r t x y)(hle:y0<=x0):x<=x0:=by
 obtain⟨ex,ey,det,-⟩:=h
 cases s
 ·simp only[Zb,if_false] at det;have:r≠0:=by rintro rfl;simp at det
  have:=Yg x (show 1<=r by omega);omega
 simp only[if_true] at det;have:t≠0:=by rintro rfl;simp at det
 have:=Yg x (show 1<=t by omega);omega
theorem Tr (x0 y0:Nat)(A B C D x y:Int)(h:MI x0 y0 A B C D x y)(hx0:x0<1000000000000000000)(hle:y0<=x0) :
 (-1000000000<A/\A<1000000000)/\(-1000000000<B/\B<1000000000)/\(-1000000000<C/\C<1000000000)/\(-1000000000<D/\D<1000000000) /\
 (0<=x/\x<1000000000000000000)/\(0<=y/\y<1000000000000000000)/\(0<=x+A/\0<=x+B)/\0<=y+C/\0<=y+D:=by
 obtain⟨s,p,q,r,t,X,Y,rfl,rfl,rfl,rfl,rfl,rfl,h⟩:=h;have d:=MB _ _ _ _ _ _ _ _ _ h hle;obtain⟨ex,ey,det,low,bp,bq,br,bt,le,go⟩:=h
 cases s<;>simp only[ZZ,Zb,if_false,if_true] at*<;> omega
theorem P0 (a b k:Nat)(hb:0<b)(h:(a:Int) / (b:Int)=(k:Int)):k*b<=a/\a<k*b+b:=by
 have d:a / b=k:=by exact_mod_cast h
 subst d;have:=Uj a b;have:=Z5 a hb;rw[Y2];omega
theorem CZ (x0 y0:Nat)(A B C D x y:Int)(h:MI x0 y0 A B C D x y)(hx0:x0<1000000000000000000)(hle:y0<=x0)(h1:0<y+C)(h2:0<y+D)(k:Int)
 (hk1:(x+A) / (y+C)=k) (hk2:(x+B) / (y+D)=k):MI x0 y0 C D (A - k*C) (B - k*D) y (x - k*y)/\0<=k/\(x - k*y)+(A - k*C)<y+C:=by
 obtain⟨b1,b2,U,V,Z,b6,O,b8⟩:=Tr x0 y0 A B C D x y h hx0 hle;have j:0<=k:=by rw[<-hk1];exact Uv O.1 (by omega)
 have G:(x - k*y)+(A - k*C)<y+C:=by
  have e:=Int.emod_add_mul_ediv (x+A) (y+C);have l:=Int.emod_lt_of_pos (x+A) h1;rw[hk1] at e;have e2:(y+C)*k=k*y+k*C:=by grind
  omega
 refine⟨?_,j,G⟩;obtain⟨K,rfl⟩:=Zt j;obtain⟨s,p,q,r,t,X,Y,rfl,rfl,rfl,rfl,rfl,rfl,h⟩:=h;have low:=h.low
 cases s
 ·simp only[ZZ,Zb,if_false] at *;have J:((X - p:Nat):Int) / ((Y+r:Nat):Int)=K:=by rw[<-hk1];congr 1<;>omega
  have M:((X+q:Nat):Int) / ((Y - t:Nat):Int)=K:=by rw[<-hk2];congr 1<;>omega
  obtain⟨I,k2⟩:=P0 _ _ _ (by omega) J;obtain⟨k3,k4⟩:=P0 _ _ _ (by omega) M;obtain⟨d,E⟩:=XO x0 y0 p q r t X Y K h hx0 hle (by omega) I k2 k3 k4;refine⟨true,r,t,p+K*r,q+K*t,Y,X - K*Y,?_,?_,?_,?_,rfl,?_,E⟩
  ·simp[ZZ]
  ·simp[ZZ]
  ·simp only[ZZ,if_true];push_cast;grind
  ·simp only[ZZ,if_true];push_cast;grind
  rw[Int.ofNat_sub d];push_cast;rfl
 simp only[ZZ,if_true] at *;have J:((X+p:Nat):Int) / ((Y - r:Nat):Int)=K:=by rw[<-hk1];congr 1<;>omega
 have M:((X - q:Nat):Int) / ((Y+t:Nat):Int)=K:=by rw[<-hk2];congr 1<;>omega
 obtain⟨I,k2⟩:=P0 _ _ _ (by omega) J;obtain⟨k3,k4⟩:=P0 _ _ _ (by omega) M;obtain⟨d,E⟩:=PD x0 y0 p q r t X Y K h hx0 hle (by omega) I k2 k3 k4;refine⟨false,r,t,p+K*r,q+K*t,Y,X - K*Y,?_,?_,?_,?_,rfl,?_,E⟩
 ·simp[ZZ]
 ·simp[ZZ]
 ·simp only[ZZ,Zb,if_false];push_cast;grind
 ·simp only[ZZ,Zb,if_false];push_cast;grind
 rw[Int.ofNat_sub d];push_cast;rfl
theorem CY (x0 y0:Nat)(A B C D x y:Int)(S a b a' b':Nat)(h:MI x0 y0 A B C D x y)(hno:¬ (A=1/\B=0))(ha:a=x0*S+a')(hb:b=y0*S+b')(ha':a'<S)(hb':b'<S):RV A B C D a b:=by
 obtain⟨s,p,q,r,t,X,Y,rfl,rfl,rfl,rfl,rfl,rfl,h⟩:=h;have go:=h.go
 cases s
 ·simp only[ZZ,Zb,if_false] at *
  rcases go with⟨h,_⟩|d
  ·cases h
  have:=OE x0 y0 p q r t X Y S a b a' b' h d ha hb ha' hb'
  simpa using this
 simp only[ZZ,if_true] at *
 rcases go with⟨_,rfl,rfl,_⟩|d
 ·exact absurd ⟨rfl,rfl⟩ hno
 exact VT x0 y0 p q r t X Y S a b a' b' h d ha hb ha' hb'
theorem CL (l:List Nat)(n:Nat)(hl:l.length<=n+3):val l=val (l.take n)+1000000000 ^ n*(l.getD n 0+1000000000*l.getD (n+1) 0+1000000000*1000000000*l.getD (n+2) 0):=by
 have e:val (l.take (n+3))=val l:=by rw[Jl hl]
 rw[<-e,Oe,Oe,Oe,J7 1000000000 (n+1),J7];generalize l.getD n 0=d;generalize l.getD (n+1) 0=h;generalize l.getD (n+2) 0=j;generalize val (l.take n)=V;generalize 1000000000 ^ n=P;clear e hl;generalize 1000000000=M
 grind
def Ig (l:List Nat)(n ten K:Nat):Nat:=(l.getD (n+2) 0*1000000000+l.getD (n+1) 0)*ten+l.getD n 0 / K
theorem Mn (l:List Nat)(ok:okL l)(n:Nat)(hl:l.length<=n+3)(ten K:Nat)(hK:ten*K=1000000000) :
 ∃ a',val l=Ig l n ten K*(1000000000 ^ n*K)+a'/\a'<1000000000 ^ n*K:=by
 have j:0<K:=by rcases Zw K with rfl|h<;>omega
 have e:=CL l n hl;have J:val (l.take n)<1000000000 ^ n:=by
  have A:=G6 _ (Mr l ok n);have h2:(l.take n).length<=n:=by rw[J4];omega
  exact Jq A (Y0 (by omega) h2)
 have G:=Uj (l.getD n 0) K;have I:=Z5 (l.getD n 0) j;unfold Ig;generalize l.getD n 0=E at *;generalize l.getD (n+1) 0=O at *;generalize l.getD (n+2) 0=U at *;generalize val (l.take n)=V at *;generalize 1000000000 ^ n=P at *;generalize E / K=d at *;generalize E % K=m at *;refine⟨V+P*m,?_,?_⟩
 ·rw[e,<-G];generalize 1000000000=M at *;subst hK
  grind
 have A:P*(m+1)<=P*K:=Yb _ I;have h2:P*(m+1)=P*m+P:=by grind
 omega
theorem FT (l:List Nat)(ok:okL l)(n ten K:Nat)(hK:ten*K=1000000000)(h2:l.getD (n+2) 0<K):Ig l n ten K<1000000000000000000:=by
 have I:0<K:=by omega
 have E:∀ i,l.getD i 0<1000000000:=fun i=>by
  rw[Ji]
  rcases Nat.lt_or_ge i l.length with h|h
  ·rw[Jd h];exact ok _ (Jo h)
  rw[Ym h];decide
 have O:=E (n+1);have G:=E n;have U:l.getD n 0 / K<ten:=Nat.div_lt_of_lt_mul (by rw[Y2,hK];exact G);unfold Ig;generalize l.getD n 0 / K=d at *;generalize l.getD (n+1) 0=j at *;generalize l.getD (n+2) 0=A at *;have J:(A*1000000000+j)*ten+ten=(A*1000000000+j+1)*ten:=by rw[Zp _ 1,Zx]
 have e2:(A*1000000000+j+1)*ten<=(K*1000000000)*ten:=Yg _ (by omega);have M:(K*1000000000)*ten=1000000000000000000:=by rw[Nat.mul_right_comm,Y2 K,hK]
 omega
theorem Sm (x y S a b a' b':Nat)(ha:a=x*S+a')(hb:b=y*S+b')(ha':a'<S)(hle:b<=a):y<=x:=by
 rcases Nat.lt_or_ge x y with h|h
 ·have:=Yg S h;rw[Nat.succ_mul] at this;omega
 exact h
open RowKit Shelf Proofs.Tryz
attribute [local go_sem] Oper.semAt_some
def LO (n:Nat):Int:=IntKind.u64.wrap (n:Int)
theorem ZQ (n:Int):IntKind.u64.wrap n=n % 18446744073709551616:=rfl
theorem PC (q y:Nat):IntKind.u64.wrap (IntKind.u64.wrap (LO q*1000000000)+y)=LO (q*1000000000+y):=by
 unfold LO;simp only[ZQ];omega
theorem PL:LO 0=0:=rfl
theorem A1 (n:Nat)(h:n<18446744073709551616):LO n=(n:Int):=by
 unfold LO;rw[ZQ];omega
def QI:List Lb->Int:=List.foldl (fun s x=>IntKind.u64.wrap (IntKind.u64.wrap (s*1000000000)+(x.1.2:Nat))) 0
theorem Sy (pre:List Lb)(x:Lb):QI (pre++[x])=IntKind.u64.wrap (IntKind.u64.wrap (QI pre*1000000000)+(x.1.2:Nat)):=by simp[QI]
theorem QX (l:List Nat)(h:okL l)(k:Nat)(hk:k<=l.length):QI (Rh (bk l h) k)=LO (Eb l (l.length - k)):=by
 induction k with
 | zero=>simp[Rh,QI,Cx,PL]
 | succ k ih=>
   rw[Ch,Sy,ih (by omega)];have d:l.length - k=l.length - (k+1)+1:=by omega
   have h2:(bk l h k).1.2=l.getD (l.length - (k+1)) 0:=by simp only[bk];rw[show l.length - 1 - k=l.length - (k+1) by omega]
   rw[h2,d,PC,Xo l (l.length - (k+1)) (by omega)]
theorem QT (F:Fence)(n:Nat)(hf:F.fn 220)(hf1:F.fn 227)(hf2:F.fn 239)(hro:F.round=none)(hn:3<=n)(B:Nat)(v:Value)(l:List Nat)(w:World)(hI:Kz B w v l) :
 CallsIn F n prog 220 #[v] w fun e W'=>e=.returned (.int .u64 (LO (val l)))/\Up w W':=by
 have U:1<=n:=by omega
 obtain⟨a,cap,rfl,hl,j,E,hr⟩:=hI;refine callsIn_of_wp_marks func220 rfl hf ?_ hro;simp only[ntmps220,Uo,Yq,Zn,Nat.reduceAdd,Nat.reduceSub,V0,V3,Um,Ua,Z4,Yx]
 gi_wp2_with (gi_at_call 227;refine (NY F (n - 1) hf1 hro _ _ _ _).mono ?_;rintro e w' ⟨rfl,rfl⟩)
 have O:=Boxed.new w 164 (.int .u64 0);have M:=Boxed.new (w.alloc (.cells #[.int .u64 0] 164)) 117 (.slice a l.length cap);rw[Jf] at M;have d:Up w ((w.alloc (.cells #[.int .u64 0] 164)).alloc (.cells #[.slice a l.length cap] 117)):=((Je _ w).alloc leR _).alloc (by simp) _;have J:l=[]∨∃ b off,a=some ⟨b,off,none⟩/\b<w.heap.size/\∀ i,i<l.length->((w.alloc (.cells #[.int .u64 0] 164)).alloc (.cells #[.slice a l.length cap] 117)).cell? ⟨b,off+i,none⟩=some (.int .u32 (l.getD i 0:Nat)):=by
  rcases hr with h|⟨b,off,e,_,hb,hc⟩
  ·exact .inl h
  exact .inr ⟨b,off,e,hb,fun i hi=>(d.cell (p:=⟨b,off+i,none⟩) hb).trans (hc i hi)⟩
 refine wpIn_rangeFunc_ownG hro U (gf:=239) (lb:=#[.pointer (some ⟨w.heap.size+1,0,none⟩)]) rfl hf2 (enters_of func239 (by kernel_rfl) rfl)
  (F5 F (n - 1) hf2 hro (by omega) (w.heap.size+1) w.heap.size _ l E _ (by simp) (by simp;omega) M.cell
    ⟨a,cap,rfl,hl,j,J⟩)
  MH (BP (by simp;omega) (by simp)) (Je _ _) (fun _=>rfl)
  (fun pre W=>(W.cell? ⟨w.heap.size,0,none⟩=some (.int .u64 (QI pre))/\W.frozen? ⟨w.heap.size,0,none⟩=false)/\Up w W)
  (fun _ _ _=>False)
  (OwnFrom.and (Own.from (fun s A B row hs hg hr=>⟨cell_kept hs.1 hg hr,(frozen_kept hs.1 hg hr).trans hs.2⟩) _) (ownFrom_below leR (by simp;omega)))
  (fun _ _ _ _ _ hs _ _=>hs)
  ⟨⟨(O.alloc _).cell,(O.alloc _).frozen⟩,d⟩
  (fun x=>{ tmps:=#[.slice a l.length cap,undef,.int .u64 0,.pointer (some ⟨w.heap.size,0,none⟩),undef,.int .u32 (x.1.2:Nat),.slice a l.length cap,.func (.func 239) #[] #[.pointer (some ⟨w.heap.size+1,0,none⟩)],.int .i64 x.1.1,.int .u32 (x.1.2:Nat),undef,undef,undef,undef,undef,undef],defers:=[] }) ?assign ?body ?done ?stop
 case assign=>
  intro Y x W K G
  gi_wp2
  exact G
 case body=>
  rintro Y pre x W ⟨⟨hc,hf⟩,I⟩ _;have Z:=x.2
  gi_wp2
  exact⟨(KeepsOthers.setCell _ _ _).from _,⟨(Je w.heap.size W).sc,Vo (Jh W ⟨w.heap.size,0,none⟩ _ (w.heap.size+1) (Nat.succ_ne_self _))⟩,
   ⟨by rw[Sy];exact World.cell?_setCell_same' _ _ _ (by rw[hc];rfl),by rw[World.frozen?_setCell];exact hf⟩,I.sc⟩
 case done=>
  rintro D ys W V rfl ⟨⟨hc,_⟩,I⟩ G;rw[QX l E l.length leR,Nat.sub_self] at hc
  gi_wp2
  refine⟨by simp,.inl ⟨_,_,rfl,run_takeDeferred G,?_⟩⟩;exact⟨_,results_tmp rfl _ _ _,rfl,I.trans (belowK_b (w:=w) leR W D _ _ (by simp at V;omega) G rfl rfl)⟩
 rintro D c pre W _ _ h _;exact h.elim
theorem Bd (B:Nat)(v:Value)(l:List Nat)(w:World)(h:Kz B w v l) :
 Calls prog 220 #[v] w fun e w'=>e=.returned (.int .u64 (LO (val l)))/\Up w w':=
 (callsIn_wide (n:=3)).1 (QT Fence.wide 3 trivial trivial trivial rfl leR B v l w h)
theorem K7 (x:Int)(h1 : -9223372036854775808<=x)(h2:x<9223372036854775808):IntKind.i64.wrap x=x:=by
 have e:IntKind.i64.wrap x=if x % 18446744073709551616≥9223372036854775808 then x % 18446744073709551616 - 18446744073709551616 else x % 18446744073709551616:=by
  unfold IntKind.wrap;simp[IntKind.bits,IntKind.signed]
 rw[e]
 split<;>omega
theorem Xj (t:List Nat)(h:okL t)(i:Nat):t.getD i 0<1000000000:=by
 by_cases d:i<t.length
 ·exact U9 t h i d
 rw[Ji,Ym (by omega)];decide
theorem Rb (B:Nat)(v:Value)(l:List Nat)(i:Int)(k:Nat)(X:Int)(w:World)(h:Kz B w v l)(hi:i=(k:Int))(hk:k<=1000000)(hX:((l.getD k 0:Nat):Int)=X) :
 Calls prog 236 #[v,.int .i64 i] w fun e w'=>e=.returned (.int .i64 X)/\w'=w:=by
 subst hi hX;exact US B v l k w h hk
theorem Fx (B:Nat)(v:Value)(l:List Nat)(n ten K:Nat)(w:World)(h:Kz B w v l)(hn:n<=100000)(hK:ten*K=1000000000)(hlt:Ig l n ten K<1000000000000000000) :
 Calls prog 235 #[v,.int .i64 (n+1:Nat),.int .i64 (ten:Nat)] w fun e w'=>e=.returned (.int .i64 (Ig l n ten K:Nat))/\Up w w':=by
 have Y:=Hd h;obtain⟨p,c,rfl,_,_,A,_⟩:=h;obtain⟨d,h0⟩:∃ X:Int,((l.getD n 0:Nat):Int)=X:=⟨_,rfl⟩;obtain⟨O,h1⟩:∃ X:Int,((l.getD (n+1) 0:Nat):Int)=X:=⟨_,rfl⟩;obtain⟨U,h2⟩:∃ X:Int,((l.getD (n+2) 0:Nat):Int)=X:=⟨_,rfl⟩;have H0:=Hd h0;have H1:=Hd h1;have H2:=Hd h2;have b0:=Xj l A n;have b1:=Xj l A (n+1);have b2:=Xj l A (n+2);obtain⟨T,V⟩:∃ T:Int,(ten:Int)=T:=⟨_,rfl⟩;obtain⟨M,hM⟩:∃ M:Int,(K:Int)=M:=⟨_,rfl⟩;have G:T*M=1000000000:=by rw[<-V,<-hM,<-Ve,hK];rfl
 have b6:1<=T:=by
  have:ten≠0:=by rintro rfl;omega
  omega
 have b5:1<=M:=by
  have:K≠0:=by rintro rfl;omega
  omega
 obtain⟨W,hW⟩:∃ W:Int,U*1000000000+O=W:=⟨_,rfl⟩;have j:((Ig l n ten K:Nat):Int)=W*T+d / M:=by
  unfold Ig;rw[Uw,Ve,Uw,Ve,Int.natCast_ediv,h0,h1,h2,V,hM,<-hW];rfl
 have I:0<=d:=by omega
 have d7:0<=d / M:=Uv I (by omega);have b8:0<=W:=by omega
 have c8:0<=W*T:=Int.mul_nonneg b8 (by omega);have d6:W*T<1000000000000000000:=by omega
 have d8:d / M<1000000000000000000:=by omega
 have Z:=Hd j;have c0:0<=d/\d<1000000000:=by omega
 have c1:0<=O/\O<1000000000:=by omega
 have c2:0<=U/\U<1000000000:=by omega
 have HW:=Hd hW;have HN:=Hd hn;have d4:M<=1000000000:=by
  have:=Ud b6 (show 0<=M by omega);omega
 have d5:T<=1000000000:=by
  have:=Uh b5 (show 0<=T by omega);omega
 have J:Int.tdiv 1000000000 T=M:=by
  rw[Vu (by decide),<-G];exact Int.mul_ediv_cancel_left _ (by omega)
 have E:Int.tdiv d M=d / M:=Vu I;rw[V];clear h0 h1 h2 V hM hK hlt j hW b0 b1 b2 A G
 go_in
 go_wp2_with fail
 refine (Rb B _ l _ (n+2) U _ Y.o (by push_cast;omega) (by have:=HN.o;omega) H2.o).mono ?_;rintro e w' ⟨rfl,b9⟩;subst b9
 go_wp2_with fail
 refine (Rb B _ l _ (n+1) O _ Y.o (by omega) (by have:=HN.o;omega) H1.o).mono ?_;rintro e w2 ⟨rfl,c6⟩;subst c6
 go_upto_region 2 with fail
 rw[HW.o];have q1:IntKind.i64.wrap (W*T)=W*T:=K7 _ (by omega) (by omega);have q2:IntKind.i64.wrap (n:Int)=(n:Int):=K7 _ (by omega) (by omega);have q3:(T==0)=false:=by rw[Jb];omega
 have q4:(M==0)=false:=by rw[Jb];omega
 have q5:IntKind.i64.wrap (Int.tdiv 1000000000 T)=M:=by rw[J];exact K7 _ (by omega) (by omega)
 have q6:IntKind.i64.wrap (d.tdiv M)=d / M:=by rw[E];exact K7 _ (by omega) (by omega)
 have q7:IntKind.i64.wrap (W*T+d / M)=W*T+d / M:=K7 _ (by omega) (by omega)
 go_quiet (first|(go_at_call 236;refine Calls.quiet_of_same (Rb B _ l _ n d _ Y.o rfl (by have:=HN.o;omega) H0.o)))
 go_wp2
 go_ret
 exact⟨Eo Z.o.symm,below_drewN (Je _ _) _⟩
theorem Ro (B:Nat)(v:Value)(l:List Nat)(n ten K:Nat)(i T:Int)(w:World)(h:Kz B w v l)(hi:i=((n+1:Nat):Int))(hT:T=((ten:Nat):Int))(hn:n<=100000)(hK:ten*K=1000000000)(hlt:Ig l n ten K<1000000000000000000) :
 Calls prog 235 #[v,.int .i64 i,.int .i64 T] w fun e w'=>e=.returned (.int .i64 (Ig l n ten K:Nat))/\Up w w':=by
 subst hi hT;exact Fx B v l n ten K w h hn hK hlt
def ZB (a b x y:Nat):Prop:=∃ S a' b',a=x*S+a'/\b=y*S+b'/\a'<S/\b'<S/\x<1000000000000000000/\y<=x
theorem FW (a b:List Nat)(n ten K:Nat)(oa:okL a)(ob:okL b)(hla:a.length=n+3)(hlb:b.length<=n+3)(hK:ten*K=1000000000)(ht:a.getD (n+2) 0<K)(hle:val b<=val a) :
 ZB (val a) (val b) (Ig a n ten K) (Ig b n ten K):=by
 obtain⟨j,ha,d⟩:=Mn a oa n (by omega) ten K hK;obtain⟨A,hb,h⟩:=Mn b ob n hlb ten K hK;exact⟨_,j,A,ha,hb,d,h,FT a oa n ten K hK ht,Sm _ _ _ _ _ j A ha hb d hle⟩
theorem Fb (k:Nat)(hk:k<=8):10 ^ k*10 ^ (9 - k)=1000000000:=by
 rw[<-Nat.pow_add,show k+(9 - k)=9 by omega]
theorem LI (k:Nat)(hk:k<=8):1<=10 ^ k/\10 ^ k<=100000000:=⟨Nat.pow_pos (by decide),by
 have:=Y0 (show 0<10 by decide) hk
 exact this⟩
theorem BN (X k:Nat)(hk:k<=8)(h:X*10 ^ k<1000000000):X<10 ^ (9 - k):=by
 apply Classical.byContradiction;intro hn;have d:10 ^ (9 - k)*10 ^ k<=X*10 ^ k:=Yg _ (by omega);rw[Y2,Fb k hk] at d;omega
theorem D4 (B:Nat)(va vb:Value)(a b:List Nat)(n:Nat)(w:World)(ha:Kz B w va a)(hb:Kz B w vb b)(hn:n<=100000)(hla:a.length=n+3)(hlb:b.length<=n+3)(hta:1<=a.getD (n+2) 0)(hle:val b<=val a) :
 Calls prog 217 #[va,vb] w fun e w'=>∃ x y:Nat,e=.returned (.tuple #[.int .i64 (x:Nat),.int .i64 (y:Nat)])/\ZB (val a) (val b) x y/\Up w w':=by
 have HA:Hid (∀ W,Up w W->Kz B W va a):=fun W hW=>ha.bl hW;have HB:Hid (∀ W,Up w W->Kz B W vb b):=fun W hW=>hb.bl hW;obtain⟨pa,ca,rfl,_⟩:=id ha;obtain⟨pb,cb,rfl,_⟩:=id hb;obtain⟨_,_,_,A,Z⟩:=ha.cells;obtain⟨_,_,_,Y,_⟩:=hb.cells;obtain⟨ba,oa,rfl,d0,d⟩:=Z (n+2) (by omega);have M:Hid (∀ k,k<=8->a.getD (n+2) 0*10 ^ k<1000000000->ZB (val a) (val b) (Ig a n (10 ^ k) (10 ^ (9 - k))) (Ig b n (10 ^ k) (10 ^ (9 - k)))):=fun k hk h=>
  FW a b n _ _ A Y hla hlb (Fb k hk) (BN _ k hk h) hle
 have d1:=Xj a A (n+2);obtain⟨x,hx⟩:=Oa (a.getD (n+2) 0);rw[hx] at d d1 hta M;have HC:Hid (∀ W,Up w W->W.cell? ⟨ba,oa+(n+2),none⟩=some (.int .u32 (x:Nat))):=fun W hW=>(hW.cell (p:=⟨ba,oa+(n+2),none⟩) d0).trans d;have b6:=Hd hla;rw[hla];clear Z d ha hb hle hla hx hlb
 go_in
 go_wp2
 go_loopw [7] (fun tv wr=>∃ k:Nat,k<=8/\tv=.int .i64 ((10 ^ k:Nat):Int)/\x*10 ^ k<1000000000/\Up w wr) (fun tv _=>(1000000000 - intOf tv).toNat)
 case atStart=>exact⟨0,by omega,rfl,by omega,Je _ _⟩
 obtain⟨k,hk,rfl,a7,hB⟩:=hrel;have d:=HC.o _ hB;have hp:=LI k hk;have b7:Hid (x*10 ^ k*10<1000000000->k+1<=8):=fun h=>by
  apply Classical.byContradiction;intro hn;obtain rfl:k=8:=by omega
  simp only[Nat.reducePow] at h;omega
 have b8:Hid (((10 ^ k:Nat):Int)*10=((10 ^ (k+1):Nat):Int)):=by
  unfold Hid
  rw[J7,Ve];rfl
 have b9:Hid (x*10 ^ (k+1)=x*10 ^ k*10):=by unfold Hid;rw[J7,Yw]
 have j:=Hd hB;have K:=Hd (M.o k hk a7);have J:=Hd hk;obtain⟨T,hT⟩:∃ T:Int,((10 ^ k:Nat):Int)=T:=⟨_,rfl⟩;have HT:=Hd hT;have t1:1<=T:=by omega
 have t2:T<=100000000:=by omega
 obtain⟨X,hX⟩:∃ X:Int,(x:Int)=X:=⟨_,rfl⟩;have HX:=Hd hX;have U:((x*10 ^ k:Nat):Int)=X*T:=by rw[<-hX,<-hT];exact Ve _ _
 have O:=Hd U;have x1:0<=X*T:=by omega
 have x2:X*T<1000000000:=by omega
 have x3:0<=X/\X<1000000000:=by omega
 rw[hX] at d;rw[hT];clear hT hX U hp a7 hB
 by_cases hc:X*T*10<1000000000
 ·have hd:decide (X*T*10<1000000000)=true:=Ja hc
  go_wp2
  go_roundw
  case rel=>
   have e1:k+1<=8:=b7.o (by have:=O.o;omega);refine⟨k+1,e1,?_,?_,j.o⟩
   ·rw[<-b8.o,HT.o]
   rw[b9.o];have:=O.o;omega
  simp[intOf];omega
 have hd:decide (X*T*10<1000000000)=false:=Jc hc;have HD:Hid (Ig a n (10 ^ k) (10 ^ (9 - k))<1000000000000000000/\Ig b n (10 ^ k) (10 ^ (9 - k))<1000000000000000000):=by
  obtain⟨_,_,_,_,_,_,_,h1,h2⟩:=K.o;exact⟨h1,by omega⟩
 have G:=Hd (HA.o _ j.o);have b5:=Hd (HB.o _ j.o);rw[b6.o] at G
 go_wp2_with fail
 refine (Ro B _ a n (10 ^ k) (10 ^ (9 - k)) _ _ _ G.o (by omega) HT.o.symm hn (Fb k J.o) HD.o.1).mono ?_;rintro e w2 ⟨rfl,hb2⟩;have I:=Hd (b5.o.bl hb2);have E:=Hd (j.o.trans (hb2.mono j.o.size));clear hb2
 go_wp2_with fail
 refine (Ro B _ b n (10 ^ k) (10 ^ (9 - k)) _ _ _ I.o (by omega) HT.o.symm hn (Fb k J.o) HD.o.2).mono ?_;rintro e w3 ⟨rfl,V⟩;have b4:=Hd (E.o.trans (V.mono E.o.size));clear V
 go_wp2
 go_ret2
 exact⟨_,_,rfl,K.o,b4.o⟩
def NS (w:World):Prop:=
 w.cell? ⟨2,0,none⟩=some (.int .i64 1)/\w.cell? ⟨2,1,none⟩=some (.int .i64 0)/\w.cell? ⟨2,2,none⟩=some (.int .i64 0)/\w.cell? ⟨2,3,none⟩=some (.int .i64 1)
theorem NS.bl {w w':World}(h:NS w)(hb:Up w w'):NS w':=by
 have d:=Pb h.1;unfold NS at *;simp only[fun o=>hb.cell (p:=⟨2,o,none⟩) d];exact h
def AW (x0 y0:Nat)(A B C D:Int):Prop:=∃ x y,MI x0 y0 A B C D x y
theorem D3 (x0 y0:Nat)(w:World)(hx0:x0<1000000000000000000)(hle:y0<=x0)(h:NS w) :
 Calls prog 216 #[.int .i64 (x0:Nat),.int .i64 (y0:Nat)] w fun e w'=>∃ A B C D:Int,e=.returned (.agg #[.int .i64 A,.int .i64 B,.int .i64 C,.int .i64 D])/\AW x0 y0 A B C D/\Up w w':=by
 have j2:=Pb h.1;obtain⟨n0,n1,n2,n3⟩:=h
 go_in
 go_wp2
 have b4:Up w ((w.alloc (.cells #[.int .i64 0,.int .i64 0,.int .i64 0,.int .i64 0] 222)).alloc (.cells #[.int .i64 1,.int .i64 0,.int .i64 0,.int .i64 1] 222)):=((Je _ w).alloc leR _).alloc (by simp) _;have b9:Bx ((w.alloc (.cells #[.int .i64 0,.int .i64 0,.int .i64 0,.int .i64 0] 222)).alloc (.cells #[.int .i64 1,.int .i64 0,.int .i64 0,.int .i64 1] 222)) w.heap.size [.int .i64 0,.int .i64 0,.int .i64 0,.int .i64 0]:=(Oi w _ _).alloc _;have c6:Bx ((w.alloc (.cells #[.int .i64 0,.int .i64 0,.int .i64 0,.int .i64 0] 222)).alloc (.cells #[.int .i64 1,.int .i64 0,.int .i64 0,.int .i64 1] 222)) (w.heap.size+1) [.int .i64 1,.int .i64 0,.int .i64 0,.int .i64 1]:=by
  have:=Oi (w.alloc (.cells #[.int .i64 0,.int .i64 0,.int .i64 0,.int .i64 0] 222)) [.int .i64 1,.int .i64 0,.int .i64 0,.int .i64 1] 222;rw[Jf] at this;exact this
 generalize (w.alloc (.cells #[.int .i64 0,.int .i64 0,.int .i64 0,.int .i64 0] 222)).alloc (.cells #[.int .i64 1,.int .i64 0,.int .i64 0,.int .i64 1] 222)=W0 at *
 go_loopw [0,1] (fun xv yv wr=>∃ A B C D x y:Int,xv=.int .i64 x/\yv=.int .i64 y/\MI x0 y0 A B C D x y/\Bx wr w.heap.size [.int .i64 0,.int .i64 0,.int .i64 0,.int .i64 0]/\Bx wr (w.heap.size+1) [.int .i64 A,.int .i64 B,.int .i64 C,.int .i64 D]/\Up w wr)
  (fun _ yv wr=>(intOf yv+intOf ((wr.cell? ⟨w.heap.size+1,2,none⟩).getD (.int .i64 0))).toNat)
 case atStart=>exact⟨1,0,0,1,x0,y0,rfl,rfl,CO x0 y0 hle,b9,c6,b4⟩
 clear b9 c6 b4 n0 n1 n2 n3;obtain⟨A,B,C,D,x,y,rfl,rfl,hS,hX,I,hB⟩:=hrel;obtain⟨⟨a1,a2⟩,⟨b1,b2⟩,⟨c1,c2⟩,⟨d1,d2⟩,⟨x1,x2⟩,⟨y1,y2⟩,⟨p1,p2⟩,p3,p4⟩:=Tr x0 y0 A B C D x y hS hx0 hle;obtain⟨e0,e1,e2,e3⟩:=I.k4;have HS:=Hd hS;have d:=Hd hX;have U:=Hd I;have E:=Hd hB;clear hS hX I hB;have w1:IntKind.i64.wrap (y+C)=y+C:=K7 _ (by omega) (by omega);have w2:IntKind.i64.wrap (y+D)=y+D:=K7 _ (by omega) (by omega);have w3:IntKind.i64.wrap (x+A)=x+A:=K7 _ (by omega) (by omega);have w4:IntKind.i64.wrap (x+B)=x+B:=K7 _ (by omega) (by omega)
 by_cases hg:0<y+C/\0<y+D
 ·obtain⟨g1,g2⟩:=hg;obtain⟨k,hk⟩:=Oa ((x+A) / (y+C));obtain⟨m,hm⟩:=Oa ((x+B) / (y+D));have w5:IntKind.i64.wrap ((x+A).tdiv (y+C))=k:=by
   have h0:0<=k:=by rw[<-hk];exact Uv p1 (by omega)
   have h1:k<=x+A:=by rw[<-hk];exact Int.ediv_le_self _ p1
   rw[Vu p1,hk];exact K7 _ (by omega) (by omega)
  have w6:IntKind.i64.wrap ((x+B).tdiv (y+D))=m:=by
   have h0:0<=m:=by rw[<-hm];exact Uv p2 (by omega)
   have h1:m<=x+B:=by rw[<-hm];exact Int.ediv_le_self _ p2
   rw[Vu p2,hm];exact K7 _ (by omega) (by omega)
  have z1:(y+C==0)=false:=by rw[Jb];omega
  have z2:(y+D==0)=false:=by rw[Jb];omega
  by_cases d3:k=m
  ·subst d3;obtain⟨G,j1,j⟩:=CZ x0 y0 A B C D x y HS.o hx0 hle g1 g2 k hk hm;obtain⟨C',V⟩:=Oa (A - k*C);obtain⟨D',b5⟩:=Oa (B - k*D);obtain⟨y',a7⟩:=Oa (x - k*y);rw[V,b5,a7] at G;rw[V,a7] at j;obtain⟨_,_,⟨h8,h9⟩,⟨i1,i6⟩,_,⟨k9,l0⟩,_⟩:=Tr x0 y0 _ _ _ _ _ _ G hx0 hle;have w7:IntKind.i64.wrap (k*C)=k*C:=K7 _ (by omega) (by omega);have w8:IntKind.i64.wrap (k*D)=k*D:=K7 _ (by omega) (by omega);have w9:IntKind.i64.wrap (A - k*C)=C':=by rw[V];exact K7 _ (by omega) (by omega)
   have j9:IntKind.i64.wrap (B - k*D)=D':=by rw[b5];exact K7 _ (by omega) (by omega)
   have k7:IntKind.i64.wrap (k*y)=k*y:=K7 _ (by omega) (by omega);have k8:IntKind.i64.wrap (x - k*y)=y':=by rw[a7];exact K7 _ (by omega) (by omega)
   have e6:=Hd G;have e4:=Hd j;clear G j hk hm
   go_wp2
   have hN:=U.o.lt;obtain⟨N,Y⟩:=Oa wr.heap.size;have Z:=Oi wr [.int .i64 0,.int .i64 0] 220;have hn2:=U.o.alloc (.cells #[.int .i64 0,.int .i64 0] 220);have d5:=d.o.alloc (.cells #[.int .i64 0,.int .i64 0] 220);have d6:=E.o.alloc E.o.size (.cells #[.int .i64 0,.int .i64 0] 220);rw[Y] at Z hN;rw[Y];have J:Bx (wr.alloc (.cells #[.int .i64 0,.int .i64 0] 220)) N [.int .i64 0,.int .i64 0]:=Z;have e5:=Hd e2;clear Z Y e0 e1 e2 e3;generalize wr.alloc (.cells #[.int .i64 0,.int .i64 0] 220)=W1 at *;clear d U E
   go_loopw [48] (fun iv wr=>∃ i u v:Int,iv=.int .i64 i/\((i=0/\u=0/\v=0)∨(i=1/\u=C'/\v=0)∨(i=2/\u=C'/\v=D'))/\Bx wr N [.int .i64 u,.int .i64 v]/\Bx wr (w.heap.size+1) [.int .i64 A,.int .i64 B,.int .i64 C,.int .i64 D]/\Bx wr w.heap.size [.int .i64 0,.int .i64 0,.int .i64 0,.int .i64 0]/\Up w wr)
    (fun iv _=>(2 - intOf iv).toNat)
   case atStart=>exact⟨0,0,0,rfl,.inl ⟨rfl,rfl,rfl⟩,J,hn2,d5,d6⟩
   clear J hn2 d5 d6;obtain⟨i,u,v,rfl,c8,hn,I,hX,hB⟩:=hrel;obtain⟨e0,e1,e2,e3⟩:=I.k4;obtain⟨f0,f1⟩:=hn.k2;obtain⟨r0,r1⟩:=hn.f2;obtain⟨t0,t1,t2,t3⟩:=I.f4;have j3:=hn.lt;have j4:=I.lt;have HN:=Hd hn;have d:=Hd hX;have U:=Hd I;have E:=Hd hB;clear hn hX I hB
   rcases c8 with⟨rfl,rfl,rfl⟩|⟨rfl,rfl,rfl⟩|⟨rfl,rfl,rfl⟩
   ·go_wp2
    go_region
    go_wp2
    go_roundw
    case rel=>exact⟨1,_,_,by go_num,.inr (.inl ⟨rfl,rfl,rfl⟩),(HN.o.set 0 _).drew,(U.o.other _ (by show N≠_;omega) _).drew,(d.o.other _ (by show N≠_;omega) _).drew,(E.o.setCell (p:=⟨N,0,none⟩) (by show _<=N;omega) _).drew⟩
    simp[intOf]
   ·go_wp2
    go_region
    go_wp2
    go_roundw
    case rel=>exact⟨2,_,_,by go_num,.inr (.inr ⟨rfl,rfl,rfl⟩),(HN.o.set 1 _).drew,(U.o.other _ (by show N≠_;omega) _).drew,(d.o.other _ (by show N≠_;omega) _).drew,(E.o.setCell (p:=⟨N,1,none⟩) (by show _<=N;omega) _).drew⟩
    simp[intOf]
   go_wp2
   go_region
   go_wp2
   have a8:Hid (Bx (((((wr.setCell ⟨w.heap.size+1,0,none⟩ (.int .i64 C)).setCell ⟨w.heap.size+1,1,none⟩ (.int .i64 D)).setCell ⟨w.heap.size+1,2,none⟩ (.int .i64 u)).setCell ⟨w.heap.size+1,3,none⟩ (.int .i64 v)).drew) (w.heap.size+1) [.int .i64 C,.int .i64 D,.int .i64 u,.int .i64 v]):=
    ((((U.o.set 0 _).set 1 _).set 2 _).set 3 _).drew
   have e7:Hid (Bx (((((wr.setCell ⟨w.heap.size+1,0,none⟩ (.int .i64 C)).setCell ⟨w.heap.size+1,1,none⟩ (.int .i64 D)).setCell ⟨w.heap.size+1,2,none⟩ (.int .i64 u)).setCell ⟨w.heap.size+1,3,none⟩ (.int .i64 v)).drew) w.heap.size [.int .i64 0,.int .i64 0,.int .i64 0,.int .i64 0]):=
    ((((d.o.other ⟨w.heap.size+1,0,none⟩ (by simp) _).other ⟨w.heap.size+1,1,none⟩ (by simp) _).other ⟨w.heap.size+1,2,none⟩ (by simp) _).other ⟨w.heap.size+1,3,none⟩ (by simp) _).drew
   have d9:Hid (Up w (((((wr.setCell ⟨w.heap.size+1,0,none⟩ (.int .i64 C)).setCell ⟨w.heap.size+1,1,none⟩ (.int .i64 D)).setCell ⟨w.heap.size+1,2,none⟩ (.int .i64 u)).setCell ⟨w.heap.size+1,3,none⟩ (.int .i64 v)).drew)):=
    ((((E.o.setCell (p:=⟨w.heap.size+1,0,none⟩) (Y4 _) _).setCell (p:=⟨w.heap.size+1,1,none⟩) (Y4 _) _).setCell (p:=⟨w.heap.size+1,2,none⟩) (Y4 _) _).setCell (p:=⟨w.heap.size+1,3,none⟩) (Y4 _) _).drew
   go_roundw
   case rel=>exact⟨C,D,u,v,y,y',rfl,rfl,e6.o,e7.o,a8.o,d9.o⟩
   have K:=a8.o.cell 2;simp only[Jm,Js] at K;rw[K,e5.o];have:=e4.o;simp only[Us,intOf];omega
  have z3:(k != m)=true:=by rw[bne_iff_ne];exact d3
  obtain⟨M,O,k2,k3⟩:=d.o.k4;obtain⟨r0,r1,r2,r3⟩:=d.o.f4
  go_wp2
  have hZ:Bx ((((wr.setCell ⟨w.heap.size,0,none⟩ (.int .i64 A)).setCell ⟨w.heap.size,1,none⟩ (.int .i64 B)).setCell ⟨w.heap.size,2,none⟩ (.int .i64 C)).setCell ⟨w.heap.size,3,none⟩ (.int .i64 D)) w.heap.size [.int .i64 A,.int .i64 B,.int .i64 C,.int .i64 D]:=(((d.o.set 0 _).set 1 _).set 2 _).set 3 _;have hE:Up w ((((wr.setCell ⟨w.heap.size,0,none⟩ (.int .i64 A)).setCell ⟨w.heap.size,1,none⟩ (.int .i64 B)).setCell ⟨w.heap.size,2,none⟩ (.int .i64 C)).setCell ⟨w.heap.size,3,none⟩ (.int .i64 D)):=(((E.o.sc).sc).sc).sc;generalize (((wr.setCell ⟨w.heap.size,0,none⟩ (.int .i64 A)).setCell ⟨w.heap.size,1,none⟩ (.int .i64 B)).setCell ⟨w.heap.size,2,none⟩ (.int .i64 C)).setCell ⟨w.heap.size,3,none⟩ (.int .i64 D)=W5 at *;obtain⟨M,O,k2,k3⟩:=hZ.k4;refine Jg (v:=.agg #[.int .i64 A,.int .i64 B,.int .i64 C,.int .i64 D]) ?_ rfl ⟨A,B,C,D,rfl,⟨x,y,HS.o⟩,hE⟩;simp[results,results216,go_sem,M,O,k2,k3]
 by_cases g1:0<y+C
 ·have g2:¬ 0<y+D:=fun h=>hg ⟨g1,h⟩;obtain⟨M,O,k2,k3⟩:=d.o.k4;obtain⟨r0,r1,r2,r3⟩:=d.o.f4
  go_wp2
  have hZ:Bx ((((wr.setCell ⟨w.heap.size,0,none⟩ (.int .i64 A)).setCell ⟨w.heap.size,1,none⟩ (.int .i64 B)).setCell ⟨w.heap.size,2,none⟩ (.int .i64 C)).setCell ⟨w.heap.size,3,none⟩ (.int .i64 D)) w.heap.size [.int .i64 A,.int .i64 B,.int .i64 C,.int .i64 D]:=(((d.o.set 0 _).set 1 _).set 2 _).set 3 _;have hE:Up w ((((wr.setCell ⟨w.heap.size,0,none⟩ (.int .i64 A)).setCell ⟨w.heap.size,1,none⟩ (.int .i64 B)).setCell ⟨w.heap.size,2,none⟩ (.int .i64 C)).setCell ⟨w.heap.size,3,none⟩ (.int .i64 D)):=(((E.o.sc).sc).sc).sc;generalize (((wr.setCell ⟨w.heap.size,0,none⟩ (.int .i64 A)).setCell ⟨w.heap.size,1,none⟩ (.int .i64 B)).setCell ⟨w.heap.size,2,none⟩ (.int .i64 C)).setCell ⟨w.heap.size,3,none⟩ (.int .i64 D)=W5 at *;obtain⟨M,O,k2,k3⟩:=hZ.k4;refine Jg (v:=.agg #[.int .i64 A,.int .i64 B,.int .i64 C,.int .i64 D]) ?_ rfl ⟨A,B,C,D,rfl,⟨x,y,HS.o⟩,hE⟩;simp[results,results216,go_sem,M,O,k2,k3]
 obtain⟨M,O,k2,k3⟩:=d.o.k4;obtain⟨r0,r1,r2,r3⟩:=d.o.f4
 go_wp2
 have hZ:Bx ((((wr.setCell ⟨w.heap.size,0,none⟩ (.int .i64 A)).setCell ⟨w.heap.size,1,none⟩ (.int .i64 B)).setCell ⟨w.heap.size,2,none⟩ (.int .i64 C)).setCell ⟨w.heap.size,3,none⟩ (.int .i64 D)) w.heap.size [.int .i64 A,.int .i64 B,.int .i64 C,.int .i64 D]:=(((d.o.set 0 _).set 1 _).set 2 _).set 3 _;have hE:Up w ((((wr.setCell ⟨w.heap.size,0,none⟩ (.int .i64 A)).setCell ⟨w.heap.size,1,none⟩ (.int .i64 B)).setCell ⟨w.heap.size,2,none⟩ (.int .i64 C)).setCell ⟨w.heap.size,3,none⟩ (.int .i64 D)):=(((E.o.sc).sc).sc).sc;generalize (((wr.setCell ⟨w.heap.size,0,none⟩ (.int .i64 A)).setCell ⟨w.heap.size,1,none⟩ (.int .i64 B)).setCell ⟨w.heap.size,2,none⟩ (.int .i64 C)).setCell ⟨w.heap.size,3,none⟩ (.int .i64 D)=W5 at *;obtain⟨M,O,k2,k3⟩:=hZ.k4;refine Jg (v:=.agg #[.int .i64 A,.int .i64 B,.int .i64 C,.int .i64 D]) ?_ rfl ⟨A,B,C,D,rfl,⟨x,y,HS.o⟩,hE⟩;simp[results,results216,go_sem,M,O,k2,k3]
theorem Lz (x y:Nat)(w:World)(hx:x<18446744073709551616)(hy:y<18446744073709551616) :
 Calls prog 219 #[.int .u64 (x:Nat),.int .u64 (y:Nat)] w fun e w'=>e=.returned (.int .u64 (Nat.gcd x y:Nat))/\Up w w':=by
 obtain⟨d,K⟩:=Oa (Nat.gcd x y);have HD:=Hd K;rw[K];clear K
 go_in
 go_wp2
 go_loopw [0,1] (fun xv yv wr=>∃ a b:Nat,xv=.int .u64 (a:Nat)/\yv=.int .u64 (b:Nat)/\Nat.gcd a b=d/\a<18446744073709551616/\b<18446744073709551616/\Up w wr) (fun _ yv _=>(intOf yv).toNat)
 case atStart=>exact⟨x,y,rfl,rfl,HD.o,hx,hy,Je _ _⟩
 obtain⟨a,b,rfl,rfl,hg,ha,hb,Z⟩:=hrel;have V:=Hd hg;have M:=Hd Z;clear hg Z
 by_cases I:b=0
 ·subst I;have HA:Hid (a=d):=by have:=V.o;rw[Nat.gcd_zero_right] at this;exact this
  go_wp2
  go_ret
  exact⟨Eo (by rw[HA.o]),M.o⟩
 have G:Hid (Nat.gcd b (a % b)=d):=by
  unfold Hid
  rw[<-V.o,U3 a b,Nat.gcd_rec b a,U3]
 have j:=Z5 a (Ys I);obtain⟨A,J⟩:∃ A:Int,(a:Int)=A:=⟨_,rfl⟩;obtain⟨C,E⟩:∃ C:Int,(b:Int)=C:=⟨_,rfl⟩;have Y:A % C=((a % b:Nat):Int):=by rw[<-J,<-E];rfl
 have U:Hid (A % C=((a % b:Nat):Int)):=Y;have O:=Hd E;have h:Hid (a % b<b/\b<18446744073709551616):=⟨j,hb⟩;have c1:0<C:=by omega
 have c2:C<18446744073709551616:=by omega
 have a1:0<=A:=by omega
 have a2:A<18446744073709551616:=by omega
 rw[J,E];clear Y J E I j ha hb
 go_wp2
 go_quiet (fail)
 go_wp2
 go_roundw
 case rel=>exact⟨b,a % b,Ot O.o.symm,Ot U.o,G.o,h.o.2,by have:=h.o;omega,below_drewN M.o _⟩
 simp[intOf];have:=U.o;have:=O.o;have:=h.o.1;omega
theorem U7.drewN {w:World}{R:Nat}{l:List Nat}(h:U7 w R l)(n:Nat):U7 (w.drewN n) R l:=by
 obtain⟨t,h⟩:=h;exact⟨t,((below_drewN (Je _ w) n).block R (Jv.1 h).1).trans h⟩
theorem Bx.drewN (h:Bx W g l)(n:Nat):Bx (W.drewN n) g l:=h.bl h.lt (below_drewN (Je _ W) n)
theorem GQ (P VL VN c s x y f0 f1 Va Vb low c':Int)(h:VL+P*c=f0*Va+f1*Vb)(hs:s=c+(f0*x+f1*y))(hN:VN=VL+P*low)(hl:s=low+1000000000*c') :
 VN+P*1000000000*c'=f0*(Va+P*x)+f1*(Vb+P*y):=by
 have d:P*s=P*low+P*1000000000*c':=by rw[hl];grind
 have e2:P*s=P*c+f0*(P*x)+f1*(P*y):=by rw[hs];grind
 rw[hN]
 grind
theorem PA (f X:Int)(h1 : -1000000000<f)(h2:f<1000000000)(h3:0<=X)(h4:X<1000000000) : -999999998000000001<=f*X/\f*X<=999999998000000001:=by
 have d:f*X<=999999999*X:=Ud (by omega) h3;have e2 : -999999999*X<=f*X:=Ud (by omega) h3;constructor<;>omega
theorem SV (S:Int):S=S.tmod 1000000000+1000000000*S.tdiv 1000000000:=by
 have:=Int.tmod_add_mul_tdiv S 1000000000;omega
theorem BU (S:Int) : -1000000000<S.tmod 1000000000/\S.tmod 1000000000<1000000000:=by
 have d:=Int.tmod_lt_of_pos S (show (0:Int)<1000000000 by decide);have h2:=Int.lt_tmod_of_pos S (show (0:Int)<1000000000 by decide);omega
theorem RL (P VL c V:Int)(h:VL+P*c=V)(h1:0<=VL)(h2:VL<P)(h3:0<=V)(h4:V<P):c=0:=by
 rcases Int.lt_trichotomy c 0 with h5|h5|h5
 ·have:=Uh (show c <= -1 by omega) (show 0<=P by omega);omega
 ·exact h5
 have:=Uh (show 1<=c by omega) (show 0<=P by omega);omega
theorem Ct (B:Nat)(va vb:Value)(a b:List Nat)(f0 f1:Int)(V:Nat)(w:World)(ha:Kz B w va a)(hb:Kz B w vb b)(hla:a.length<=100000)(hlb:b.length<=a.length)(hf0 : -1000000000<f0/\f0<1000000000)(hf1 : -1000000000<f1/\f1<1000000000)
 (hV:f0*val a+f1*val b=V) (hVl:V<1000000000 ^ a.length) :
 Calls prog 218 #[va,vb,.agg #[.int .i64 f0,.int .i64 f1]] w fun e w'=>∃ v L,e=.returned v/\Kz w.heap.size w' v L/\isTrim L/\val L=V/\L.length<=a.length/\Up w w':=by
 obtain⟨i0,d1,f9,g0,g1⟩:=info_parts info_u32;have d7:Hid (∀ W,Up w W->Kz B W vb b):=fun W hW=>hb.bl hW;obtain⟨pa,ca,rfl,_⟩:=id ha;obtain⟨pb,cb,rfl,_⟩:=id hb;obtain⟨_,_,_,b9,I⟩:=ha.cells;obtain⟨_,_,_,c6,_⟩:=hb.cells;have HA:=Hd I;clear I ha hb
 go_in
 go_wp2_with (at_make;refine wpList_make_full _ rfl _ _ 117 rfl w.heap.size 149 i0 (.int .u32 0) 1 underlying117 d1 f9 g0 .i64 .i64 _ _ a.length rfl rfl (by first|rfl|omega) (by first|rfl|omega) (by first|omega|(rw[g1];omega)) (by unfold maxLen;omega) (by simp) ?_)
 intro w1 G c8
 first|rw[Ep] at G|rw[Eu] at G
 have O:U7 w1 (w.heap.size+1) (List.replicate a.length 0):=(Kj G).tail;have Z:Below (w.heap.size+1) (w.alloc (.cells #[.int .i64 f0,.int .i64 f1] 220)) w1:=(Je _ _).grown c8 (by simp) (fun k h=>by cases h);have hF:Bx w1 w.heap.size [.int .i64 f0,.int .i64 f1]:=(Oi w [.int .i64 f0,.int .i64 f1] 220).bl (Yl _) Z;have b8:Up w w1:=(Oz w _).trans (Z.mono (Y4 _));clear G c8 Z
 go_wp2
 go_loopw [8,16] (fun cv iv wr=>∃ (i:Nat) (c:Int) (L:List Nat),i<=a.length/\cv=.int .i64 c/\iv=.int .i64 (i:Nat)/\(-2000000000<=c/\c<=2000000000)/\L.length=a.length/\okL L/\U7 wr (w.heap.size+1) L/\Bx wr w.heap.size [.int .i64 f0,.int .i64 f1] /\
  (val (L.take i):Int)+(1000000000 ^ i:Nat)*c=f0*val (a.take i)+f1*val (b.take i)/\Up w wr) (fun _ iv _=>a.length - (intOf iv).toNat)
 case atStart=>exact⟨0,0,_,Jr _,rfl,rfl,by omega,by simp,fun x hx=>by rw[Yt hx];omega,O,hF,by simp[val],b8⟩
 clear O hF b8;obtain⟨i,c,L,hi,rfl,rfl,⟨h6,h7⟩,a8,A,O,hF,d,hB⟩:=hrel
 by_cases d0:i<a.length
 ·obtain⟨ba,oa,rfl,d2,I⟩:=HA.o i d0;rw[<-hB.cell (p:=⟨ba,oa+i,none⟩) d2] at I;have e9:=U9 a b9 i d0;have f8:=Xj b c6 i;obtain⟨X,hX⟩:∃ X:Int,((a.getD i 0:Nat):Int)=X:=⟨_,rfl⟩;obtain⟨Y,hY⟩:∃ Y:Int,((b.getD i 0:Nat):Int)=Y:=⟨_,rfl⟩;rw[hX] at I;obtain⟨m1,m2⟩:=PA f0 X hf0.1 hf0.2 (by omega) (by omega);obtain⟨m3,m4⟩:=PA f1 Y hf1.1 hf1.2 (by omega) (by omega);obtain⟨S,hS⟩:=Oa (c+(f0*X+f1*Y));obtain⟨R,b3⟩:=Oa (S.tmod 1000000000);obtain⟨Q,hQ⟩:=Oa (S.tdiv 1000000000);have b4:=SV S;have e8:=BU S;rw[b3,hQ] at b4;rw[b3] at e8;have x1:0<=X/\X<1000000000:=by omega
  have y1:0<=Y/\Y<1000000000:=by omega
  have b7:Hid (∀ (low:Nat) (c':Int),S=low+1000000000*c'->(val ((L.set i low).take (i+1)):Int)+(1000000000 ^ (i+1):Nat)*c'=f0*val (a.take (i+1))+f1*val (b.take (i+1))):=fun low c' hl=>by
   rw[O2 L i low (by omega),Oe a i,Oe b i,J7,Uw,Uw,Uw,Ve,Ve,Ve,Ve,hX,hY];exact GQ _ _ _ c S X Y f0 f1 _ _ low c' d hS.symm rfl hl
  have u1:IntKind.i64.wrap (f0*X)=f0*X:=K7 _ (by omega) (by omega);have u2:IntKind.i64.wrap (f1*Y)=f1*Y:=K7 _ (by omega) (by omega);have u3:IntKind.i64.wrap (f0*X+f1*Y)=f0*X+f1*Y:=K7 _ (by omega) (by omega);have u4:IntKind.i64.wrap (c+(f0*X+f1*Y))=S:=by rw[hS];exact K7 _ (by omega) (by omega)
  have u5:IntKind.i64.wrap (S.tmod 1000000000)=R:=by rw[b3];exact K7 _ (by omega) (by omega)
  have u6:IntKind.i64.wrap (S.tdiv 1000000000)=Q:=by rw[hQ];exact K7 _ (by omega) (by omega)
  obtain⟨e0,e1⟩:=hF.k2;have e7:=O.cell i (by omega);have h8:=O.frozen i;have HY:=Hd hY;have HR:=Hd O;have HF:=Hd hF;have HB:=Hd hB;have d8:=Hd A;have U:=Hd a8;have HI:=Hd (d7.o _ hB);have q1 : -1999999999<=Q/\Q<=1999999999:=by omega
  have K:Hid (∀ (nq:Nat) (low:Nat),low<1000000000->U7 ((wr.drewN nq).setCell ⟨w.heap.size+1,i,none⟩ (.int .u32 (low:Nat))) (w.heap.size+1) (L.set i low)/\okL (L.set i low)):=fun nq low hl=>
   ⟨U7.set (w:=wr.drewN nq) (HR.o.drewN nq) i low (by have:=U.o;omega),Kn L d8.o i low hl⟩
  have M:Hid (∀ (nq:Nat) (u:Value),Bx ((wr.drewN nq).setCell ⟨w.heap.size+1,i,none⟩ u) w.heap.size [.int .i64 f0,.int .i64 f1]/\Up w ((wr.drewN nq).setCell ⟨w.heap.size+1,i,none⟩ u)):=fun nq u=>
   ⟨(HF.o.drewN nq).other _ (by simp) u,(below_drewN HB.o nq).setCell (p:=⟨w.heap.size+1,i,none⟩) (Y4 _) u⟩
  have b6:=Hd b4;clear O hF hB A d hY hX hS e9 f8 b4
  go_upto_region 6 with fail
  go_quiet (first|(go_at_call 236;refine Calls.quiet_of_same (Rb B _ b _ i Y _ HI.o rfl (by omega) HY.o)))
  by_cases g5:R<0
  ·have u7:IntKind.i64.wrap (R+1000000000)=R+1000000000:=K7 _ (by omega) (by omega);have u8:IntKind.i64.wrap (Q - 1)=Q - 1:=K7 _ (by omega) (by omega);obtain⟨low,E⟩:∃ low:Nat,R+1000000000=(low:Int):=⟨(R+1000000000).toNat,by omega⟩;have j:=Hd E;have J:low<1000000000:=by omega
   clear E
   go_wp2
   rw[j.o]
   go_roundw
   case rel=>exact⟨i+1,Q - 1,L.set i low,by omega,rfl,by go_num,by omega,by rw[List.length_set];exact U.o,(K.o nq low J).2,(K.o nq low J).1,(M.o nq _).1,b7.o low (Q - 1) (by have:=b6.o;have:=j.o;omega),(M.o nq _).2⟩
   simp[intOf];omega
  obtain⟨low,E⟩:∃ low:Nat,R=(low:Int):=⟨R.toNat,by omega⟩;have j:=Hd E;have J:low<1000000000:=by omega
  clear E
  go_wp2
  rw[j.o]
  go_roundw
  case rel=>exact⟨i+1,Q,L.set i low,by omega,rfl,by go_num,by omega,by rw[List.length_set];exact U.o,(K.o nq low J).2,(K.o nq low J).1,(M.o nq _).1,b7.o low Q (by have:=b6.o;have:=j.o;omega),(M.o nq _).2⟩
  simp[intOf];omega
 obtain rfl:i=a.length:=by omega
 rw[Jl (by omega),Jl leR,Jl hlb,hV] at d;have hP:((val L:Nat):Int)<((1000000000 ^ a.length:Nat):Int):=by
  have:=G6 L A;rw[a8] at this;exact Int.ofNat_lt.2 this
 have e6:=RL _ _ c V d (Ux _) hP (Ux _) (Int.ofNat_lt.2 hVl);rw[e6,Int.mul_zero,Int.add_zero] at d;have d3:val L=V:=Int.ofNat.inj d;have HI:Hid (Kz w.heap.size wr (.slice (some ⟨w.heap.size+1,0,none⟩) a.length a.length) L):=by
  have h:=O.isL (B:=w.heap.size) (cap:=a.length) (Y4 _) A (by omega) (by unfold maxLen;omega);rw[a8] at h;exact h
 have HT:Hid (val (Og L)=V/\(Og L).length<=a.length/\isTrim (Og L)):=⟨by rw[O4];exact d3,by have:=Kd L;omega,trimL_trim _⟩;have d6:=Hd hB;clear d O hB A hF hP d3 hV hVl
 go_wp2_with fail
 refine (Nl w.heap.size _ L _ HI.o).mono ?_;rintro e w5 ⟨v,rfl,hcut,rfl⟩;have HW:Hid (Kz w.heap.size w5 v (Og L)):=hcut _ _ HI.o;obtain⟨pv,cv,hv,_⟩:=HW.o;subst hv;clear hcut
 go_wp2
 go_ret
 exact⟨_,_,rfl,HW.o,HT.o.2.2,HT.o.1,HT.o.2.1,d6.o⟩
theorem S7 (a b:List Nat)(ta:isTrim a)(ob:okL b)(h:val a<=val b):a.length<=b.length:=by
 by_cases ha:a=[]
 ·rw[ha];exact Jr _
 have d:=Ql a ta ha;have h2:=G6 b ob;have h3:1000000000 ^ (a.length - 1)<1000000000 ^ b.length:=by omega
 have h4:=(Nat.pow_lt_pow_iff_right (show 1<1000000000 by decide)).1 h3;omega
theorem LD (a:List Nat)(n:Nat)(h:a.length=n+1)(ta:isTrim a):1<=a.getD n 0:=by
 have d:a≠[]:=by rintro rfl;simp at h
 have:=ta d;rw[List.getLast_eq_getElem] at this;rw[Ji,Jd (by omega)];simp only[h,Vf] at this;simp only[Us];omega
theorem LJ (a b c d:Int)(w:World):(Op.equalIn 10000 220 (.agg #[.int .i64 a,.int .i64 b]) (.agg #[.int .i64 c,.int .i64 d])).run prog w=.ok (a==c&&b==d) w:=by
 have u3:=underlying2;have a3:=Tryz.isAgg2;have z3:=Tryz.sizeOf2;rw[show (10000:Nat)=9999+1 from rfl,Op.equalIn];simp only[Sem.run_bind,run_underlying underlying220,Result.andThen_ok];simp only[Std.Legacy.Range.forIn_eq_forIn_range',Std.Legacy.Range.size,Nat.sub_zero,Vf,Nat.div_one,List.range'_succ,List.range'_zero,List.forIn_cons,List.forIn_nil]
 go_simp
 by_cases h:a=c<;>by_cases h2:b=d<;>simp[h,h2]
theorem FX (a b q r:Nat)(h:a=q*b+r):Nat.gcd b r=Nat.gcd a b:=by
 rw[h,U3 (q*b+r) b,Nat.gcd_rec b (q*b+r),Y2,Nat.mul_add_mod,Nat.gcd_rec b r]
theorem Hk {N:Nat}(w:World)(o:Obj)(h:N<=w.heap.size):Below N w (w.alloc o):=(Je _ w).alloc h o
def RU (B n d:Nat)(w0:World)(k:Nat)(av bv:Value)(wr:World):Prop:=
 ∃ A L:List Nat,(Kz B wr av A/\Kz B wr bv L)/\(isTrim A/\isTrim L)/\(val L<=val A/\val L=k)/\Nat.gcd (val A) (val L)=d/\A.length<=n/\Up w0 wr
theorem Fi (B:Nat)(va vb:Value)(a b:List Nat)(n:Nat)(w:World)(hBw:B<=w.heap.size)(ha:Kz B w va a)(hb:Kz B w vb b)(ta:isTrim a)(tb:isTrim b)(hla:a.length<=n)(hlb:b.length<=n)(hn:n<=90000)(hNS:NS w) :
 Calls prog 196 #[va,vb] w fun e w'=>∃ v L,e=.returned v/\Kz B w' v L/\isTrim L/\val L=Nat.gcd (val a) (val b)/\Up w w':=by
 have HA:=Hd ha;have HB:=Hd hb;have l2:=Hd hNS;have HT:Hid (isTrim a/\isTrim b):=⟨ta,tb⟩;have e5:=Hd hBw;obtain⟨pa,ca,rfl,_,_,oa,_⟩:=ha;obtain⟨pb,cb,rfl,_,_,ob,_⟩:=hb;obtain⟨d,hd⟩:=Oa (Nat.gcd (val a) (val b));rw[hd];have HD:=Hd hd;obtain⟨c,hc⟩:=Oa (Ny a b);have HC:=Hd hc;have r3 : -1<=c/\c<=1:=by rw[<-hc];exact Rq a b
 have g2:Hid (if c<0 then val a<=val b else val b<=val a):=by
  unfold Hid
  rw[<-hc,Hn a b oa ob ta tb];unfold Tv
  split
  ·rw[if_pos (by decide)];omega
  split
  ·rw[if_neg (by decide)];omega
  rw[if_neg (by decide)];omega
 clear hd hc ta tb hNS hBw oa ob
 by_cases m7:c<0
 all_goals
  go_in
  go_wp2_with fail
  refine (E7 B _ _ a b _ HA.o HB.o).mono ?_;rintro e w1 ⟨rfl,g8⟩;rw[HC.o];have Y:=Hd g8;clear g8
  go_wp2
  go_loopg [0,1] (min (val a) (val b)) (RU B n d w)
  case atStart=>
   have h:=g2.o
   first
    | (rw[if_pos m7] at h;rw[Zo h];exact⟨b,a,⟨HB.o.bl Y.o,HA.o.bl Y.o⟩,⟨HT.o.2,HT.o.1⟩,⟨h,rfl⟩,by rw[U3];exact HD.o,hlb,Y.o⟩)
    | (rw[if_neg (by omega)] at h;rw[Nat.min_eq_right h];exact⟨a,b,⟨HA.o.bl Y.o,HB.o.bl Y.o⟩,⟨HT.o.1,HT.o.2⟩,⟨h,rfl⟩,HD.o,hla,Y.o⟩)
  obtain⟨A,L,⟨hA,hL⟩,⟨tA,tL⟩,⟨e9,hk⟩,hg,r4,hB⟩:=hrel;obtain⟨p1,c1,rfl,_,_,oA,_⟩:=id hA;obtain⟨p2,c2,rfl,_,_,oL,_⟩:=id hL;have a7:=Hd hA;have b3:=Hd hL;have G:Hid ((isTrim A/\isTrim L)/\(val L<=val A/\val L=gk)/\Nat.gcd (val A) (val L)=d/\(okL A/\okL L)/\L.length<=A.length):=⟨⟨tA,tL⟩,⟨e9,hk⟩,hg,⟨oA,oL⟩,S7 L A tL oA e9⟩;have E:=Hd hB;have d5:=Hd (l2.o.bl hB);clear hA hL tA tL e9 hk hg hB oA oL
  by_cases h2:A.length<=2
  ·have HV:Hid (val A<1000000000000000000/\val L<1000000000000000000):=by
    have h1:=G6 A G.o.2.2.2.1.1;have h3:=Y0 (show 0<1000000000 by decide) h2;have h4:=G.o.2.1.1;have h5:(1000000000:Nat) ^ 2=1000000000000000000:=by decide
    show val A<1000000000000000000/\val L<1000000000000000000
    omega
   go_wp2_with fail
   refine (Bd B _ A _ a7.o).mono ?_;rintro e w2 ⟨rfl,hb2⟩;rw[A1 _ (by have:=HV.o.1;omega)];have K:=Hd hb2;clear hb2
   go_wp2_with fail
   refine (Bd B _ L _ (b3.o.bl K.o)).mono ?_;rintro e w3 ⟨rfl,b7⟩;rw[A1 _ (by have:=HV.o.2;omega)];have j:=Hd (K.o.trans (b7.mono K.o.size));clear b7
   go_wp2_with fail
   refine (Lz (val A) (val L) _ (by have:=HV.o.1;omega) (by have:=HV.o.2;omega)).mono ?_;rintro e w4 ⟨rfl,g9⟩;rw[G.o.2.2.1];have I:=Hd (j.o.trans (g9.mono j.o.size));have h9:Hid (d<18446744073709551616):=by
    have h1:=G.o.2.2.1
    by_cases h0:val A=0
    ·rw[h0,Nat.gcd_zero_left] at h1;have:=HV.o.2
     show d<18446744073709551616
     omega
    have h3:=Nat.gcd_le_left (val L) (Ys h0);have:=HV.o.1
    show d<18446744073709551616
    omega
   clear g9
   go_wp2_with fail
   refine (Qx d _ h9.o).mono ?_;rintro e w5 ⟨v,t,rfl,hv,ht,j4,_,J⟩;have k9:=Hd (E.o.trans ((I.o.trans (J.mono I.o.size)).mono E.o.size));have l4:Hid (Kz B w5 v t):=hv.mono (by have:=E.o.size;have:=I.o.size;have:=e5.o;omega);have g3:Hid (isTrim t/\val t=d):=⟨ht,j4⟩;obtain⟨pv,cv,n4,_⟩:=hv;subst n4;clear ht j4 J
   go_wp2
   go_ret
   exact⟨_,t,rfl,l4.o,g3.o.1,g3.o.2,k9.o⟩
  by_cases h0:L.length=0
  ·have HG:Hid (val A=d):=by
    have h1:=G.o.2.2.1;rw[Jw h0] at h1
    show val A=d
    simpa[val] using h1
   go_wp2
   go_ret
   exact⟨_,A,rfl,a7.o,G.o.1.1,HG.o,E.o⟩
  obtain⟨m,hm⟩:∃ m,A.length=m+3:=⟨A.length - 3,by omega⟩;have HM:=Hd hm;have r5:m<=90000:=by omega
  have q9:((L.length:Int)==0)=false:=by rw[Jb];omega
  clear hm
  go_wp2_with fail
  refine (D4 B _ _ A L m _ a7.o b3.o (by omega) HM.o (by have:=G.o.2.2.2.2;have:=HM.o;omega) (LD A (m+2) HM.o G.o.1.1) G.o.2.1.1).mono ?_;rintro e w2 ⟨x0,y0,rfl,O,hb2⟩;have e6:=Hd O;have K:=Hd hb2;have HX:Hid (x0<1000000000000000000/\y0<=x0):=by
   obtain⟨_,_,_,_,_,_,_,h1,h2⟩:=O;exact⟨h1,h2⟩
  clear O hb2
  go_wp2_with fail
  refine (D3 x0 y0 _ HX.o.1 HX.o.2 (d5.o.bl K.o)).mono ?_;rintro e w3 ⟨Z,fB,fC,fD,rfl,i7,b7⟩;have l3:=Hd i7;have j:=Hd (K.o.trans (b7.mono K.o.size));obtain⟨n0,n1,n2,n3⟩:=d5.o.bl j.o;have o4:=Pb n0;clear i7 b7
  by_cases f8:Z=1/\fB=0
  ·obtain⟨rfl,rfl⟩:=f8;have hq:∀ W,(Op.equalIn 10000 220 (.agg #[.int .i64 1,.int .i64 0]) (.agg #[.int .i64 1,.int .i64 0])).run prog W=.ok true W:=fun W=>LJ 1 0 1 0 W
   go_wp2_with fail
   refine (Pw B _ _ A L _ (by have:=e5.o;have:=E.o.size;have:=j.o.size;simp;omega) (a7.o.bl (j.o.trans (Hk _ _ j.o.size))) (b3.o.bl (j.o.trans (Hk _ _ j.o.size))) (by omega) G.o.1.1 G.o.1.2 (fun h=>h0 (by rw[h];rfl))).mono ?_;rintro e w5 ⟨v,u,Q,U,rfl,⟨⟨_,hu⟩,⟨_,j1⟩,_,e0,i6⟩,J⟩;have b8:Up wr w5:=(j.o.trans (Hk _ _ j.o.size)).trans (J.mono (by have:=j.o.size;simp;omega));have e7:Hid (RU B n d w (val U) (.slice p2 L.length c2) u w5):=
    ⟨L,U,⟨b3.o.bl b8,hu⟩,⟨G.o.1.2,j1⟩,⟨by omega,rfl⟩,by rw[<-G.o.2.2.1];exact FX _ _ _ _ e0,by have:=G.o.2.2.2.2;omega,E.o.trans (b8.mono E.o.size)⟩
   have l0:Hid (val U<gk):=by unfold Hid;have:=G.o.2.1.2;omega
   obtain⟨pu,cu,m9,_⟩:=hu;subst m9;clear j1 e0 i6 J b8
   go_wp2
   go_roundg (val U)
   case measure=>exact l0.o
   exact e7.o
  have hq:∀ W,(Op.equalIn 10000 220 (.agg #[.int .i64 Z,.int .i64 fB]) (.agg #[.int .i64 1,.int .i64 0])).run prog W=.ok false W:=fun W=>by
   rw[LJ]
   congr 1
   rw[Bool.and_eq_false_iff,Jb,Jb]
   by_cases h:Z=1
   ·exact .inr fun h'=>f8 ⟨h,h'⟩
   exact .inl h
  obtain⟨W4,d3⟩:=Oa (w3.alloc (.cells #[.int .i64 Z,.int .i64 fB,.int .i64 fC,.int .i64 fD] 222));have e8:Bx W4 w3.heap.size [.int .i64 Z,.int .i64 fB,.int .i64 fC,.int .i64 fD]:=by rw[<-d3];exact Oi w3 _ _
  have g7:Up wr W4:=by rw[<-d3];exact j.o.trans (Hk _ _ j.o.size)
  have l5:=Hd d3;have I:=Hd g7;have g1:Hid (∀ W,Up W4 W->W.cell? ⟨w3.heap.size,0,none⟩=some (.int .i64 Z)/\W.cell? ⟨w3.heap.size,1,none⟩=some (.int .i64 fB)/\W.cell? ⟨w3.heap.size,2,none⟩=some (.int .i64 fC)/\W.cell? ⟨w3.heap.size,3,none⟩=some (.int .i64 fD)):=fun W hW=>by
   have h:=e8.bl e8.lt hW;exact⟨h.cell 0,h.cell 1,h.cell 2,h.cell 3⟩
  have d1:Hid (∀ W,Up W4 W->(Kz B W (.slice p1 A.length c1) A/\Kz B W (.slice p2 L.length c2) L)/\Up wr W):=fun W hW=>by
   have hh:=I.o.trans (hW.mono I.o.size);exact⟨⟨a7.o.bl hh,b3.o.bl hh⟩,hh⟩
  obtain⟨xf,yf,c6⟩:=l3.o;have b9:=Tr x0 y0 Z fB fC fD xf yf c6 HX.o.1 HX.o.2;obtain⟨SS,a',b',ea,eb,j5,j6,_,_⟩:=e6.o;obtain⟨a1,b1,h7,h8,i1,d7,l9⟩:=CY x0 y0 Z fB fC fD xf yf SS (val A) (val L) a' b' c6 f8 ea eb j5 j6;have m8:val A<1000000000 ^ A.length:=G6 A G.o.2.2.2.1.1;have M:Hid ((Z*(val A:Nat)+fB*(val L:Nat)=(a1:Nat)/\a1<1000000000 ^ A.length)/\(fC*(val A:Nat)+fD*(val L:Nat)=(b1:Nat)/\b1<1000000000 ^ A.length)/\Nat.gcd a1 b1=d/\b1<a1/\b1<gk):=by
   have h1:=G.o.2.1;exact⟨⟨h7,by omega⟩,⟨h8,by omega⟩,i1.trans G.o.2.2.1,d7,by omega⟩
  have HF:Hid (((-1000000000<Z/\Z<1000000000)/\(-1000000000<fB/\fB<1000000000))/\(-1000000000<fC/\fC<1000000000)/\(-1000000000<fD/\fD<1000000000)):=⟨⟨b9.1,b9.2.1⟩,b9.2.2.1,b9.2.2.2.1⟩;have V:Hid (L.length<=A.length/\A.length<=100000):=⟨G.o.2.2.2.2,by omega⟩;clear c6 b9 ea eb j5 j6 h7 h8 i1 d7 l9 m8 e8 g7 d3
  go_upto_region 10 with fail
  rw[l5.o];obtain⟨c0,q6,q7,c3⟩:=g1.o W4 (Je _ _)
  go_region_with (first
   | (go_at_call_of 218 (Value.int IntKind.i64 Z)
      refine (Ct B _ _ A L Z fB a1 _ (d1.o _ (Je _ W4).drew).1.1 (d1.o _ (Je _ W4).drew).1.2 V.o.2 V.o.1 HF.o.1.1 HF.o.1.2 M.o.1.1 M.o.1.2).mono ?_;rintro e w5 ⟨v1,L1,rfl,j2,i8,e1,d8,J⟩;have a8:Hid (Up W4 w5):=(Je _ W4).drew.trans J;have b4:Hid (Kz W4.heap.size w5 v1 L1/\isTrim L1/\val L1=a1/\L1.length<=A.length):=⟨j2,i8,e1,d8⟩;obtain⟨q5,n8,n9,q8⟩:=g1.o w5 a8.o;clear j2 i8 e1 d8 J)
   | (go_at_call_of 218 (Value.int IntKind.i64 fC)
      refine (Ct B _ _ A L fC fD b1 _ (d1.o _ a8.o).1.1 (d1.o _ a8.o).1.2 V.o.2 V.o.1 HF.o.2.1 HF.o.2.2 M.o.2.1.1 M.o.2.1.2).mono ?_;rintro e w6 ⟨v2,L2,rfl,j3,j0,e3,d9,h6⟩;have g0:=Hd h6;have b5:Hid (Kz w5.heap.size w6 v2 L2/\isTrim L2/\val L2=b1/\L2.length<=A.length):=⟨j3,j0,e3,d9⟩;clear j3 j0 e3 d9 h6))
  all_goals
   have e7:Hid (RU B n d w b1 v1 v2 w6):=by
    have s1:=e5.o;have s2:=E.o.size;have s3:=I.o.size;have s4:=a8.o.size;exact⟨L1,L2,⟨(b4.o.1.bl g0.o).mono (by omega),b5.o.1.mono (by omega)⟩,⟨b4.o.2.1,b5.o.2.1⟩,⟨by rw[b4.o.2.2.1,b5.o.2.2.1];exact U5 M.o.2.2.2.1,b5.o.2.2.1⟩,by rw[b4.o.2.2.1,b5.o.2.2.1];exact M.o.2.2.1,by have:=b4.o.2.2.2;omega,
     E.o.trans ((I.o.trans ((a8.o.trans (g0.o.mono s4)).mono s3)).mono s2)⟩
   try simp only[Y3,Yv,Yp,Act.put,Jp,Jz,J0]
   go_wp2
   go_roundg b1
   case measure=>exact M.o.2.2.2.2
   exact e7.o
def Ns (x y:Int):Int:=((Int.gcd x y:Nat):Int)
theorem M9 (n:Bool)(v:Nat):(sg n v).natAbs=v:=by cases n<;>simp[sg]
theorem FI (na nb:Bool)(a b:Nat):Ns (sg na a) (sg nb b)=((Nat.gcd a b:Nat):Int):=by
 unfold Ns Int.gcd;rw[M9,M9]
theorem FQ (a b L:List Nat)(n:Nat)(tL:isTrim L)(oa:okL a)(ob:okL b)(hv:val L=Nat.gcd (val a) (val b))(ha:a.length<=n)(hb:b.length<=n):L.length<=n:=by
 by_cases d:val a=0
 ·rw[d,Nat.gcd_zero_left] at hv;have:=S7 L b tL ob (by omega);omega
 have h:=Nat.gcd_le_left (val b) (Ys d);have:=S7 L a tL oa (by omega);omega
theorem Pa (B:Nat)(za zb:Value)(x y:Int)(n:Nat)(w:World)(hBw:B<=w.heap.size)(ha:Hr B w za x n)(hb:Hr B w zb y n)(hn:n<=90000)(hNS:NS w) :
 Calls prog 179 #[za,zb] w fun e w'=>∃ z,e=.returned z/\Hr B w' z (Ns x y) n/\Up w w':=by
 obtain⟨na,va,a,rfl,b3,ta,rfl,Z⟩:=ha;obtain⟨nb,vb,b,rfl,b4,tb,rfl,a7⟩:=hb;rw[FI];have b8:=Hd b3;have b9:=Hd b4;have b7:=Hd hNS;have b6:=Hd hBw;have O:Hid (isTrim a/\isTrim b):=⟨ta,tb⟩;obtain⟨pa,ca,rfl,_,_,oa,_⟩:=b3;obtain⟨pb,cb,rfl,_,_,ob,_⟩:=b4;have M:Hid (okL a/\okL b):=⟨oa,ob⟩;clear ta tb hNS hBw oa ob;obtain⟨W0,A⟩:=Oa (((w.alloc (.cells #[.bool (Ky na a),.slice pa a.length ca] 155)).alloc (.cells #[.bool (Ky nb b),.slice pb b.length cb] 155)).alloc (.cells #[.bool false,.slice none 0 0] 155));have c6:=Hd A;have d:Hid (Up w W0):=by
  unfold Hid
  rw[<-A];exact Ob (Ob (Oz _ _) _) _
 have G:Bx W0 (w.heap.size+1+1) [.bool false,.slice none 0 0]:=by
  rw[<-A];have h:=Oi ((w.alloc (.cells #[.bool (Ky na a),.slice pa a.length ca] 155)).alloc (.cells #[.bool (Ky nb b),.slice pb b.length cb] 155)) [.bool false,.slice none 0 0] 155;rw[Jf,Jf] at h;exact h
 have K:Hid (∀ W,Up W0 W->Bx W (w.heap.size+1+1) [.bool false,.slice none 0 0]):=fun W hW=>G.bl G.lt hW;clear A G
 go_in
 go_wp2_with fail
 rw[c6.o];refine (Fi B _ _ a b n _ (by have:=b6.o;have:=d.o.size;omega) (b8.o.bl d.o) (b9.o.bl d.o) O.o.1 O.o.2 Z a7 hn (b7.o.bl d.o)).mono ?_;rintro e w1 ⟨v,L,rfl,hv,tL,j,V⟩;have HV:=Hd hv;have J:=Hd V;have HL:Hid (isTrim L/\val L=Nat.gcd (val a) (val b)/\L.length<=n):=⟨tL,j,FQ a b L n tL M.o.1 M.o.2 j Z a7⟩;obtain⟨pv,cv,d2,_⟩:=hv;subst d2;clear tL j V
 go_wp2_with fail
 refine (K1 B false _ L _ HV.o).mono ?_;rintro e w2 ⟨v',rfl,hcut,hb2⟩;have U:Hid (Kz B w2 v' L):=by
  have h:=hcut _ _ (HV.o.bl hb2);rw[Po L HL.o.1] at h;exact h
 have E:=Hd (J.o.trans (hb2.mono J.o.size));have e1:Ky false (Og L)=false:=by unfold Ky;rfl
 rw[e1];have hb:=K.o w2 E.o;obtain⟨k0,k1⟩:=hb.k2;obtain⟨r0,r1⟩:=hb.f2;obtain⟨I,c2,d1,_⟩:=U.o;subst d1;clear hcut hb2 hb e1
 go_wp2
 have Y:=K.o w2 E.o;have a8:Nh w2 (w.heap.size+1+1):=fun i x=>by
  rw[Y.cell i]
  match i with
  | 0=>simp
  | 1=>simp
  | i+2=>simp
 have kk:Ka (w.heap.size+1+1) (w.heap.size+1+1) w2 ((w2.setCell ⟨w.heap.size+1+1,0,none⟩ (.bool false)).setCell ⟨w.heap.size+1+1,1,none⟩ (.slice I L.length c2)):=
  Ka.setCell (Ka.setCell (Ka.refl _ _ w2) ⟨w.heap.size+1+1,0,none⟩ (.bool false) (Or.inl rfl)) ⟨w.heap.size+1+1,1,none⟩ (.slice I L.length c2) (Or.inl rfl)
 have d0:=U.o.keeps a8 a8 kk;have hZ:Bx ((w2.setCell ⟨w.heap.size+1+1,0,none⟩ (.bool false)).setCell ⟨w.heap.size+1+1,1,none⟩ (.slice I L.length c2)) (w.heap.size+1+1) [.bool false,.slice I L.length c2]:=(Y.set 0 _).set 1 _;have hE:Up w ((w2.setCell ⟨w.heap.size+1+1,0,none⟩ (.bool false)).setCell ⟨w.heap.size+1+1,1,none⟩ (.slice I L.length c2)):=
  ((d.o.trans (E.o.mono d.o.size)).setCell (p:=⟨w.heap.size+1+1,0,none⟩) (by show _<=w.heap.size+1+1;omega) _).setCell (p:=⟨w.heap.size+1+1,1,none⟩) (by show _<=w.heap.size+1+1;omega) _
 generalize (w2.setCell ⟨w.heap.size+1+1,0,none⟩ (.bool false)).setCell ⟨w.heap.size+1+1,1,none⟩ (.slice I L.length c2)=WE at *;obtain⟨m0,m1⟩:=hZ.k2;refine Jg (v:=.agg #[.bool false,.slice I L.length c2]) ?_ rfl ⟨_,rfl,⟨false,_,L,by unfold Ky;rfl,d0,HL.o.1,by rw[HL.o.2.1];rfl,HL.o.2.2⟩,hE⟩;simp[results,results179,go_sem,m0,m1]
end Go.Proofs.YtdmdmgfjpomdbaaGreatDoor.Q
