import Derived.IntWalk
import Derived.Deep.DeepCutAuto
import Derived.Test.YtipgjenolpofpaaGreatDoorP08
import Derived.Deep.LoopGhost
import Derived.Laws.StructEq
import Derived.Laws.Tables
set_option maxRecDepth 100000
set_option maxHeartbeats 4000000
namespace Go.Proofs.YtipgjenolpofpaaGreatDoor.Q
open Go.ChangeShapes Go.WideShapes Go.ChangeAt Go.RowKit Go.Proofs.Tryz
def Bx (W:World)(g:Nat)(l:List Value):Prop:=∃ ty,W.heap[g]? = some (.cells l.toArray ty (0,0))
theorem Bx.lt {W:World}{g:Nat}{l:List Value}(h:Bx W g l):g<W.heap.size:=by
 obtain⟨t,h⟩:=h;exact (J2.1 h).1
theorem Bx.cell {W:World}{g:Nat}{l:List Value}(h:Bx W g l)(i:Nat):W.cell? ⟨g,i,none⟩=l[i]? := by
 obtain⟨t,h⟩:=h;simp[World.cell?,h]
theorem Bx.frozen {W:World}{g:Nat}{l:List Value}(h:Bx W g l)(i:Nat):W.frozen? ⟨g,i,none⟩=false:=by
 obtain⟨t,h⟩:=h;simp[World.frozen?,h]
theorem Bx.set {W:World}{g:Nat}{l:List Value}(h:Bx W g l)(i:Nat)(v:Value):Bx (W.setCell ⟨g,i,none⟩ v) g (l.set i v):=by
 obtain⟨t,h⟩:=h;refine⟨t,?_⟩;obtain⟨d,j⟩:=J2.1 h
 show (W.heap.modify g _)[g]? = _
 rw[Vl (by rw[Z1];exact d),Vm,j];simp
theorem Bx.k2 {W:World}{g:Nat}{v0 v1:Value}{r:List Value}(h:Bx W g (v0::v1::r)):W.cell? ⟨g,0,none⟩=some v0/\W.cell? ⟨g,1,none⟩=some v1:=⟨h.cell 0,h.cell 1⟩
theorem Bx.k3 {W:World}{g:Nat}{v0 v1 v2:Value}{r:List Value}(h:Bx W g (v0::v1::v2::r)):W.cell? ⟨g,0,none⟩=some v0/\W.cell? ⟨g,1,none⟩=some v1/\W.cell? ⟨g,2,none⟩=some v2:=⟨h.cell 0,h.cell 1,h.cell 2⟩
theorem Bx.k4 {W:World}{g:Nat}{v0 v1 v2 v3:Value}{r:List Value}(h:Bx W g (v0::v1::v2::v3::r)):W.cell? ⟨g,0,none⟩=some v0/\W.cell? ⟨g,1,none⟩=some v1/\W.cell? ⟨g,2,none⟩=some v2/\W.cell? ⟨g,3,none⟩=some v3:=⟨h.cell 0,h.cell 1,h.cell 2,h.cell 3⟩
theorem Bx.k5 {W:World}{g:Nat}{v0 v1 v2 v3 v4:Value}{r:List Value}(h:Bx W g (v0::v1::v2::v3::v4::r)):W.cell? ⟨g,0,none⟩=some v0/\W.cell? ⟨g,1,none⟩=some v1/\W.cell? ⟨g,2,none⟩=some v2/\W.cell? ⟨g,3,none⟩=some v3/\W.cell? ⟨g,4,none⟩=some v4:=⟨h.cell 0,h.cell 1,h.cell 2,h.cell 3,h.cell 4⟩
theorem Bx.k6 {W:World}{g:Nat}{v0 v1 v2 v3 v4 v5:Value}{r:List Value}(h:Bx W g (v0::v1::v2::v3::v4::v5::r)):W.cell? ⟨g,0,none⟩=some v0/\W.cell? ⟨g,1,none⟩=some v1/\W.cell? ⟨g,2,none⟩=some v2/\W.cell? ⟨g,3,none⟩=some v3/\W.cell? ⟨g,4,none⟩=some v4/\W.cell? ⟨g,5,none⟩=some v5:=⟨h.cell 0,h.cell 1,h.cell 2,h.cell 3,h.cell 4,h.cell 5⟩
theorem Bx.f2 {W:World}{g:Nat}{r:List Value}(h:Bx W g r):W.frozen? ⟨g,0,none⟩=false/\W.frozen? ⟨g,1,none⟩=false:=⟨h.frozen 0,h.frozen 1⟩
theorem Bx.f3 {W:World}{g:Nat}{r:List Value}(h:Bx W g r):W.frozen? ⟨g,0,none⟩=false/\W.frozen? ⟨g,1,none⟩=false/\W.frozen? ⟨g,2,none⟩=false:=⟨h.frozen 0,h.frozen 1,h.frozen 2⟩
theorem Bx.f4 {W:World}{g:Nat}{r:List Value}(h:Bx W g r):W.frozen? ⟨g,0,none⟩=false/\W.frozen? ⟨g,1,none⟩=false/\W.frozen? ⟨g,2,none⟩=false/\W.frozen? ⟨g,3,none⟩=false:=⟨h.frozen 0,h.frozen 1,h.frozen 2,h.frozen 3⟩
theorem Bx.f6 {W:World}{g:Nat}{r:List Value}(h:Bx W g r):W.frozen? ⟨g,0,none⟩=false/\W.frozen? ⟨g,1,none⟩=false/\W.frozen? ⟨g,2,none⟩=false/\W.frozen? ⟨g,3,none⟩=false/\W.frozen? ⟨g,4,none⟩=false/\W.frozen? ⟨g,5,none⟩=false:=⟨h.frozen 0,h.frozen 1,h.frozen 2,h.frozen 3,h.frozen 4,h.frozen 5⟩
theorem Bx.f7 {W:World}{g:Nat}{r:List Value}(h:Bx W g r):W.frozen? ⟨g,0,none⟩=false/\W.frozen? ⟨g,1,none⟩=false/\W.frozen? ⟨g,2,none⟩=false/\W.frozen? ⟨g,3,none⟩=false/\W.frozen? ⟨g,4,none⟩=false/\W.frozen? ⟨g,5,none⟩=false/\W.frozen? ⟨g,6,none⟩=false:=⟨h.frozen 0,h.frozen 1,h.frozen 2,h.frozen 3,h.frozen 4,h.frozen 5,h.frozen 6⟩
theorem Bx.other {W:World}{g:Nat}{l:List Value}(h:Bx W g l)(p:Addr)(hp:p.block≠g)(v:Value):Bx (W.setCell p v) g l:=by
 obtain⟨t,h⟩:=h;exact⟨t,(Jq W p v g (fun e=>hp e.symm)).trans h⟩
theorem Bx.below {W W':World}{g N:Nat}{l:List Value}(h:Bx W g l)(hN:g<N)(hb:Below N W W'):Bx W' g l:=by
 obtain⟨t,h⟩:=h;exact⟨t,(hb.block g hN).trans h⟩
theorem Bx.alloc {W:World}{g:Nat}{l:List Value}(h:Bx W g l)(o:Obj):Bx (W.alloc o) g l:=h.below h.lt (Oy W o)
theorem Bx.drew {W:World}{g:Nat}{l:List Value}(h:Bx W g l):Bx W.drew g l:=h.below h.lt (Jh _ W).drew
theorem Ox (W:World)(l:List Value)(ty:TypeId):Bx (W.alloc (.cells l.toArray ty)) W.heap.size l:=⟨ty,Array.getElem?_push_size⟩
theorem ZD (B:Nat)(v:Value)(l:List Nat)(i:Nat)(w:World)(h:U1 B w v l)(_hi:i<=1000000) :
 Calls prog 243 #[v,.int .i64 (i:Nat)] w fun e w'=>e=.returned (.int .i64 (l.getD i 0:Nat))/\w'=w:=by
 obtain⟨p,c,rfl,_⟩:=id h;obtain⟨_,_,_,A,hc⟩:=h.cells
 by_cases hl:i<l.length
 ·obtain⟨b,G,rfl,hb,d⟩:=hc i hl;have E:=O9 l A i hl;obtain⟨x,j⟩:=O1 (l.getD i 0);rw[j] at d E ⊢;clear j hc h
  go_enter func243,ntmps243
  go_wp2
  go_ret
  exact⟨rfl,rfl⟩
 have e:l.getD i 0=0:=by rw[Jk,Yj (by omega)];rfl
 rw[e];clear e hc h
 go_enter func243,ntmps243
 go_wp2
 go_ret
 exact⟨rfl,rfl⟩
theorem FH (n:Nat)(M:Nat)(h:n*n<M*M):n<M:=by
 rcases Nat.lt_or_ge n M with d|d
 ·exact d
 exact absurd h (Nat.not_lt.2 (V7 d d))
structure LSt (x0 y0:Nat)(s:Bool)(p q r t x y:Nat):Prop where
 ex:x0=t*x+q*y
 ey:y0=r*x+p*y
 det:if s then p*t=q*r+1 else q*r=p*t+1
 low:if s then q<=x/\r<=y else p<=x/\t<=y
 bp:p<1000000000
 bq:q<1000000000
 br:r<1000000000
 bt:t<1000000000
 le:y<=x
 go:(s=true/\p=1/\q=0/\r=0/\t=1)∨(1<=r/\(if s then y+t+q<x else y+r+p<x))
theorem RG (x0 y0:Nat)(h:y0<=x0):LSt x0 y0 true 1 0 0 1 x0 y0:=
 ⟨by omega,by omega,by simp,by simp,by omega,by omega,by omega,by omega,h,.inl ⟨rfl,rfl,rfl,rfl,rfl⟩⟩
theorem Qk (m y x0:Nat)(h:m*y<=x0)(h1:m<=y)(hx:x0<1000000000000000000):m<1000000000:=by
 have d:m*m<=m*y:=J8 m h1;exact FH m 1000000000 (by omega)
theorem IW (x0 y0 p q r t x y k:Nat)(h:LSt x0 y0 true p q r t x y)(hx0:x0<1000000000000000000)(hle:y0<=x0)(hy:r<y)
 (k1:k*(y - r)<=x+p) (k2:x+p<k*(y - r)+(y - r)) (k3:k*(y+t)<=x - q) (k4:x - q<k*(y+t)+(y+t)) :
 k*y<=x/\LSt x0 y0 false r t (p+k*r) (q+k*t) y (x - k*y):=by
 obtain⟨ex,ey,det,low,bp,bq,br,bt,le,go⟩:=h;simp only[if_true] at det low go;obtain⟨V,I⟩:=low;have J:k*(y - r)+k*r=k*y:=by rw[<-Yf,Nat.sub_add_cancel I]
 have M:k*(y+t)=k*y+k*t:=Yf _ _ _;obtain⟨z,A⟩:∃ z,x=k*y+z:=⟨x - k*y,by omega⟩;have d:x - k*y=z:=by omega
 have f1:x0=(q+k*t)*y+t*z:=by rw[ex,A];grind
 have f2:y0=(p+k*r)*y+r*z:=by rw[ey,A];grind
 have U:q+k*t<=z:=by omega
 have O:z+(p+k*r)+r<y:=by omega
 have j:1<=p+k*r:=by
  rcases go with⟨_,Y,_⟩|⟨E,K⟩
  ·omega
  have:1<=k:=by
   rcases Zq k with rfl|G
   ·simp at k4;omega
   exact G
  have:=V7 this E;omega
 rw[d];refine⟨by omega,f1,f2,?_,?_,br,bt,?_,?_,by omega,.inr ⟨j,?_⟩⟩
 ·simp only[Y8,if_false];grind
 ·simp only[Y8,if_false];omega
 ·exact Qk (p+k*r) y y0 (by omega) (by omega) (by omega)
 ·exact Qk (q+k*t) y x0 (by omega) (by omega) (by omega)
 simp only[Y8,if_false];omega
theorem GU (x0 y0 p q r t x y k:Nat)(h:LSt x0 y0 false p q r t x y)(hx0:x0<1000000000000000000)(hle:y0<=x0)(hy:t<y)
 (k1:k*(y+r)<=x - p) (k2:x - p<k*(y+r)+(y+r)) (k3:k*(y - t)<=x+q) (k4:x+q<k*(y - t)+(y - t)) :
 k*y<=x/\LSt x0 y0 true r t (p+k*r) (q+k*t) y (x - k*y):=by
 obtain⟨ex,ey,det,low,bp,bq,br,bt,le,go⟩:=h;simp only[Y8,if_false] at det low go;obtain⟨V,I⟩:=low;have J:k*(y - t)+k*t=k*y:=by rw[<-Yf,Nat.sub_add_cancel I]
 have M:k*(y+r)=k*y+k*r:=Yf _ _ _;obtain⟨z,A⟩:∃ z,x=k*y+z:=⟨x - k*y,by omega⟩;have d:x - k*y=z:=by omega
 have f1:x0=(q+k*t)*y+t*z:=by rw[ex,A];grind
 have f2:y0=(p+k*r)*y+r*z:=by rw[ey,A];grind
 have U:p+k*r<=z:=by omega
 have O:z+(q+k*t)+t<y:=by omega
 have j:1<=p+k*r:=by
  rcases go with⟨h,_⟩|⟨E,K⟩
  ·cases h
  have:1<=k:=by
   rcases Zq k with rfl|G
   ·simp at k2;omega
   exact G
  have:=V7 this E;omega
 rw[d];refine⟨by omega,f1,f2,?_,?_,br,bt,?_,?_,by omega,.inr ⟨j,?_⟩⟩
 ·simp only[if_true];grind
 ·simp only[if_true];omega
 ·exact Qk (p+k*r) y y0 (by omega) (by omega) (by omega)
 ·exact Qk (q+k*t) y x0 (by omega) (by omega) (by omega)
 simp only[if_true];omega
def T9 (s:Bool)(n:Nat):Int:=if s then (n:Int) else -(n:Int)
def IB (A B C D:Int)(a b:Nat):Prop:=∃ a1 b1:Nat,A*a+B*b=a1/\C*a+D*b=b1/\Nat.gcd a1 b1=Nat.gcd a b/\b1<a1/\a1<=b
theorem QD (a b a1 b1 p q r t:Nat)(h1:a=t*a1+q*b1)(h2:b=r*a1+p*b1)(h3:Nat.gcd a b∣a1)(h4:Nat.gcd a b∣b1):Nat.gcd a1 b1=Nat.gcd a b:=by
 apply Nat.dvd_antisymm
 ·apply Nat.dvd_gcd
  ·rw[h1];exact Nat.dvd_add (Yx (Nat.gcd_dvd_left _ _) _) (Yx (Nat.gcd_dvd_right _ _) _)
  rw[h2];exact Nat.dvd_add (Yx (Nat.gcd_dvd_left _ _) _) (Yx (Nat.gcd_dvd_right _ _) _)
 exact Nat.dvd_gcd h3 h4
theorem OB (x0 y0 p q r t x y S a b a' b':Nat)(h:LSt x0 y0 true p q r t x y)(hg:1<=r/\y+t+q<x)(ha:a=x0*S+a')(hb:b=y0*S+b')(ha':a'<S)(hb':b'<S) :
 IB p (-q) (-r) t a b:=by
 obtain⟨ex,ey,det,low,bp,bq,br,bt,le,go⟩:=h;simp only[if_true] at det low;have I:p*x0=q*y0+x:=by rw[ex,ey];grind
 have K:t*y0=r*x0+y:=by rw[ex,ey];grind
 have Z:p*a=q*(y0*S)+x*S+p*a':=by rw[ha,Yf,<-Yt,I];grind
 have V:q*b=q*(y0*S)+q*b':=by rw[hb];grind
 have d3:t*b=r*(x0*S)+y*S+t*b':=by rw[hb,Yf,<-Yt,K];grind
 have d4:r*a=r*(x0*S)+r*a':=by rw[ha];grind
 have m1:q*b'<=q*S:=J8 _ (by omega);have m2:r*a'<=r*S:=J8 _ (by omega);have m3:t*b'<=t*S:=J8 _ (by omega);have m4:(y+t+q+1)*S<=x*S:=Yh _ (by omega);have U:r*S<=y*S:=Yh _ low.2;have Y:(y+t+q+1)*S=y*S+t*S+q*S+S:=by grind
 obtain⟨a1,d⟩:∃ a1,p*a=q*b+a1:=⟨x*S+p*a' - q*b',by omega⟩;obtain⟨b1,j⟩:∃ b1,t*b=r*a+b1:=⟨y*S+t*b' - r*a',by omega⟩;have J:(a:Int)=t*a1+q*b1:=by
  have E:(p:Int)*a=q*b+a1:=by exact_mod_cast d
  have z2:(t:Int)*b=r*a+b1:=by exact_mod_cast j
  have z3:(p:Int)*t=q*r+1:=by exact_mod_cast det
  grind
 have i2:(b:Int)=r*a1+p*b1:=by
  have E:(p:Int)*a=q*b+a1:=by exact_mod_cast d
  have z2:(t:Int)*b=r*a+b1:=by exact_mod_cast j
  have z3:(p:Int)*t=q*r+1:=by exact_mod_cast det
  grind
 have M:a=t*a1+q*b1:=by exact_mod_cast J
 have O:b=r*a1+p*b1:=by exact_mod_cast i2
 have G:=Nat.gcd_dvd_left a b;have A:=Nat.gcd_dvd_right a b;refine⟨a1,b1,?_,?_,QD a b a1 b1 p q r t M O ?_ ?_,by omega,?_⟩
 ·have E:(p:Int)*a=q*b+a1:=by exact_mod_cast d
  grind
 ·have z2:(t:Int)*b=r*a+b1:=by exact_mod_cast j
  grind
 ·exact (Nat.dvd_add_right (Yx A q)).1 (d ▸ Yx G p)
 ·exact (Nat.dvd_add_right (Yx G r)).1 (j ▸ Yx A t)
 have:=Yh a1 hg.1;omega
theorem To (x0 y0 p q r t x y S a b a' b':Nat)(h:LSt x0 y0 false p q r t x y)(hg:1<=r/\y+r+p<x)(ha:a=x0*S+a')(hb:b=y0*S+b')(ha':a'<S)(hb':b'<S) :
 IB (-p) q r (-t) a b:=by
 obtain⟨ex,ey,det,low,bp,bq,br,bt,le,go⟩:=h;simp only[Y8,if_false] at det low;have I:q*y0=p*x0+x:=by rw[ex,ey];grind
 have K:r*x0=t*y0+y:=by rw[ex,ey];grind
 have Z:q*b=p*(x0*S)+x*S+q*b':=by rw[hb,Yf,<-Yt,I];grind
 have V:p*a=p*(x0*S)+p*a':=by rw[ha];grind
 have d3:r*a=t*(y0*S)+y*S+r*a':=by rw[ha,Yf,<-Yt,K];grind
 have d4:t*b=t*(y0*S)+t*b':=by rw[hb];grind
 have m1:p*a'<=p*S:=J8 _ (by omega);have m2:t*b'<=t*S:=J8 _ (by omega);have m3:r*a'<=r*S:=J8 _ (by omega);have m4:(y+r+p+1)*S<=x*S:=Yh _ (by omega);have U:t*S<=y*S:=Yh _ low.2;have Y:(y+r+p+1)*S=y*S+r*S+p*S+S:=by grind
 obtain⟨a1,d⟩:∃ a1,q*b=p*a+a1:=⟨x*S+q*b' - p*a',by omega⟩;obtain⟨b1,j⟩:∃ b1,r*a=t*b+b1:=⟨y*S+r*a' - t*b',by omega⟩;have J:(a:Int)=t*a1+q*b1:=by
  have E:(q:Int)*b=p*a+a1:=by exact_mod_cast d
  have z2:(r:Int)*a=t*b+b1:=by exact_mod_cast j
  have z3:(q:Int)*r=p*t+1:=by exact_mod_cast det
  grind
 have i2:(b:Int)=r*a1+p*b1:=by
  have E:(q:Int)*b=p*a+a1:=by exact_mod_cast d
  have z2:(r:Int)*a=t*b+b1:=by exact_mod_cast j
  have z3:(q:Int)*r=p*t+1:=by exact_mod_cast det
  grind
 have M:a=t*a1+q*b1:=by exact_mod_cast J
 have O:b=r*a1+p*b1:=by exact_mod_cast i2
 have G:=Nat.gcd_dvd_left a b;have A:=Nat.gcd_dvd_right a b;refine⟨a1,b1,?_,?_,QD a b a1 b1 p q r t M O ?_ ?_,by omega,?_⟩
 ·have E:(q:Int)*b=p*a+a1:=by exact_mod_cast d
  grind
 ·have z2:(r:Int)*a=t*b+b1:=by exact_mod_cast j
  grind
 ·exact (Nat.dvd_add_right (Yx G p)).1 (d ▸ Yx A q)
 ·exact (Nat.dvd_add_right (Yx A t)).1 (j ▸ Yx G r)
 have:=Yh a1 hg.1;omega
def CK (x0 y0:Nat)(A B C D x y:Int):Prop:=∃ (s:Bool) (p q r t X Y:Nat),A=T9 s p/\B = -T9 s q/\C = -T9 s r/\D=T9 s t/\x=X/\y=Y/\LSt x0 y0 s p q r t X Y
theorem IJ (x0 y0:Nat)(h:y0<=x0):CK x0 y0 1 0 0 1 x0 y0:=⟨true,1,0,0,1,x0,y0,rfl,rfl,rfl,rfl,rfl,rfl,RG x0 y0 h⟩
theorem CA (x0 y0:Nat)(s:Bool)(p q r t x y:Nat)(h:LSt x0 y0 s p q r t x y)(hle:y0<=x0):x<=x0:=by
 obtain⟨ex,ey,det,-⟩:=h
 cases s
 ·simp only[Y8,if_false] at det;have:r≠0:=by rintro rfl;simp at det
  have:=Yh x (show 1<=r by omega);omega
 simp only[if_true] at det;have:t≠0:=by rintro rfl;simp at det
 have:=Yh x (show 1<=t by omega);omega
theorem Ba (x0 y0:Nat)(A B C D x y:Int)(h:CK x0 y0 A B C D x y)(hx0:x0<1000000000000000000)(hle:y0<=x0) :
 (-1000000000<A/\A<1000000000)/\(-1000000000<B/\B<1000000000)/\(-1000000000<C/\C<1000000000)/\(-1000000000<D/\D<1000000000) /\
 (0<=x/\x<1000000000000000000)/\(0<=y/\y<1000000000000000000)/\(0<=x+A/\0<=x+B)/\0<=y+C/\0<=y+D:=by
 obtain⟨s,p,q,r,t,X,Y,rfl,rfl,rfl,rfl,rfl,rfl,h⟩:=h;have d:=CA _ _ _ _ _ _ _ _ _ h hle;obtain⟨ex,ey,det,low,bp,bq,br,bt,le,go⟩:=h
 cases s<;>simp only[T9,Y8,if_false,if_true] at*<;> omega
theorem R5 (a b k:Nat)(hb:0<b)(h:(a:Int) / (b:Int)=(k:Int)):k*b<=a/\a<k*b+b:=by
 have d:a / b=k:=by exact_mod_cast h
 subst d;have:=Uc a b;have:=Zx a hb;rw[Yy];omega
theorem XA (x0 y0:Nat)(A B C D x y:Int)(h:CK x0 y0 A B C D x y)(hx0:x0<1000000000000000000)(hle:y0<=x0)(h1:0<y+C)(h2:0<y+D)(k:Int)
 (hk1:(x+A) / (y+C)=k) (hk2:(x+B) / (y+D)=k):CK x0 y0 C D (A - k*C) (B - k*D) y (x - k*y)/\0<=k/\(x - k*y)+(A - k*C)<y+C:=by
 obtain⟨b1,b2,V,b4,U,b6,O,b8⟩:=Ba x0 y0 A B C D x y h hx0 hle;have j:0<=k:=by rw[<-hk1];exact Uq O.1 (by omega)
 have M:(x - k*y)+(A - k*C)<y+C:=by
  have e:=Int.emod_add_mul_ediv (x+A) (y+C);have l:=Int.emod_lt_of_pos (x+A) h1;rw[hk1] at e;have Z:(y+C)*k=k*y+k*C:=by grind
  omega
 refine⟨?_,j,M⟩;obtain⟨K,rfl⟩:=Zn j;obtain⟨s,p,q,r,t,X,Y,rfl,rfl,rfl,rfl,rfl,rfl,h⟩:=h;have low:=h.low
 cases s
 ·simp only[T9,Y8,if_false] at *;have I:((X - p:Nat):Int) / ((Y+r:Nat):Int)=K:=by rw[<-hk1];congr 1<;>omega
  have E:((X+q:Nat):Int) / ((Y - t:Nat):Int)=K:=by rw[<-hk2];congr 1<;>omega
  obtain⟨G,k2⟩:=R5 _ _ _ (by omega) I;obtain⟨k3,k4⟩:=R5 _ _ _ (by omega) E;obtain⟨d,J⟩:=GU x0 y0 p q r t X Y K h hx0 hle (by omega) G k2 k3 k4;refine⟨true,r,t,p+K*r,q+K*t,Y,X - K*Y,?_,?_,?_,?_,rfl,?_,J⟩
  ·simp[T9]
  ·simp[T9]
  ·simp only[T9,if_true];push_cast;grind
  ·simp only[T9,if_true];push_cast;grind
  rw[Int.ofNat_sub d];push_cast;rfl
 simp only[T9,if_true] at *;have I:((X+p:Nat):Int) / ((Y - r:Nat):Int)=K:=by rw[<-hk1];congr 1<;>omega
 have E:((X - q:Nat):Int) / ((Y+t:Nat):Int)=K:=by rw[<-hk2];congr 1<;>omega
 obtain⟨G,k2⟩:=R5 _ _ _ (by omega) I;obtain⟨k3,k4⟩:=R5 _ _ _ (by omega) E;obtain⟨d,J⟩:=IW x0 y0 p q r t X Y K h hx0 hle (by omega) G k2 k3 k4;refine⟨false,r,t,p+K*r,q+K*t,Y,X - K*Y,?_,?_,?_,?_,rfl,?_,J⟩
 ·simp[T9]
 ·simp[T9]
 ·simp only[T9,Y8,if_false];push_cast;grind
 ·simp only[T9,Y8,if_false];push_cast;grind
 rw[Int.ofNat_sub d];push_cast;rfl
theorem IX (x0 y0:Nat)(A B C D x y:Int)(S a b a' b':Nat)(h:CK x0 y0 A B C D x y)(hno:¬ (A=1/\B=0))(ha:a=x0*S+a')(hb:b=y0*S+b')(ha':a'<S)(hb':b'<S):IB A B C D a b:=by
 obtain⟨s,p,q,r,t,X,Y,rfl,rfl,rfl,rfl,rfl,rfl,h⟩:=h;have go:=h.go
 cases s
 ·simp only[T9,Y8,if_false] at *
  rcases go with⟨h,_⟩|d
  ·cases h
  have:=To x0 y0 p q r t X Y S a b a' b' h d ha hb ha' hb'
  simpa using this
 simp only[T9,if_true] at *
 rcases go with⟨_,rfl,rfl,_⟩|d
 ·exact absurd ⟨rfl,rfl⟩ hno
 exact OB x0 y0 p q r t X Y S a b a' b' h d ha hb ha' hb'
theorem QI (l:List Nat)(n:Nat)(hl:l.length<=n+3):val l=val (l.take n)+1000000000 ^ n*(l.getD n 0+1000000000*l.getD (n+1) 0+1000000000*1000000000*l.getD (n+2) 0):=by
 have e:val (l.take (n+3))=val l:=by rw[Jn hl]
 rw[<-e,Ok,Ok,Ok,J5 1000000000 (n+1),J5];generalize l.getD n 0=j;generalize l.getD (n+1) 0=d;generalize l.getD (n+2) 0=h;generalize val (l.take n)=V;generalize 1000000000 ^ n=P;clear e hl;generalize 1000000000=M
 grind
def Hg (l:List Nat)(n ten K:Nat):Nat:=(l.getD (n+2) 0*1000000000+l.getD (n+1) 0)*ten+l.getD n 0 / K
theorem Fq (l:List Nat)(ok:okL l)(n:Nat)(hl:l.length<=n+3)(ten K:Nat)(hK:ten*K=1000000000) :
 ∃ a',val l=Hg l n ten K*(1000000000 ^ n*K)+a'/\a'<1000000000 ^ n*K:=by
 have j:0<K:=by rcases Zq K with rfl|h<;>omega
 have e:=QI l n hl;have Y:val (l.take n)<1000000000 ^ n:=by
  have E:=Gu _ (Ct l ok n);have G:(l.take n).length<=n:=by rw[J3];omega
  exact Jz E (Yu (by omega) G)
 have I:=Uc (l.getD n 0) K;have J:=Zx (l.getD n 0) j;unfold Hg;generalize l.getD n 0=A at *;generalize l.getD (n+1) 0=O at *;generalize l.getD (n+2) 0=U at *;generalize val (l.take n)=V at *;generalize 1000000000 ^ n=P at *;generalize A / K=d at *;generalize A % K=m at *;refine⟨V+P*m,?_,?_⟩
 ·rw[e,<-I];generalize 1000000000=M at *;subst hK
  grind
 have E:P*(m+1)<=P*K:=J8 _ J;have G:P*(m+1)=P*m+P:=by grind
 omega
theorem PB (l:List Nat)(ok:okL l)(n ten K:Nat)(hK:ten*K=1000000000)(h2:l.getD (n+2) 0<K):Hg l n ten K<1000000000000000000:=by
 have I:0<K:=by omega
 have E:∀ i,l.getD i 0<1000000000:=fun i=>by
  rw[Jk]
  rcases Nat.lt_or_ge i l.length with h|h
  ·rw[Jf h];exact ok _ (Jw h)
  rw[Yj h];decide
 have V:=E (n+1);have G:=E n;have J:l.getD n 0 / K<ten:=Nat.div_lt_of_lt_mul (by rw[Yy,hK];exact G);unfold Hg;generalize l.getD n 0 / K=d at *;generalize l.getD (n+1) 0=j at *;generalize l.getD (n+2) 0=A at *;have M:(A*1000000000+j)*ten+ten=(A*1000000000+j+1)*ten:=by rw[Zl _ 1,Zp]
 have O:(A*1000000000+j+1)*ten<=(K*1000000000)*ten:=Yh _ (by omega);have U:(K*1000000000)*ten=1000000000000000000:=by rw[Nat.mul_right_comm,Yy K,hK]
 omega
theorem Ag (x y S a b a' b':Nat)(ha:a=x*S+a')(hb:b=y*S+b')(ha':a'<S)(hle:b<=a):y<=x:=by
 rcases Nat.lt_or_ge x y with h|h
 ·have:=Yh S h;rw[Nat.succ_mul] at this;omega
 exact h
open Go.RowKit Go.Shelf Go.Proofs.Tryz
attribute [local go_sem] Oper.semAt_some
def RJ (n:Nat):Int:=IntKind.u64.wrap (n:Int)
theorem Tc (n:Int):IntKind.u64.wrap n=n % 18446744073709551616:=rfl
theorem RU (q y:Nat):IntKind.u64.wrap (IntKind.u64.wrap (RJ q*1000000000)+y)=RJ (q*1000000000+y):=by
 unfold RJ;simp only[Tc];omega
theorem IK:RJ 0=0:=rfl
theorem Bu (n:Nat)(h:n<18446744073709551616):RJ n=(n:Int):=by
 unfold RJ;rw[Tc];omega
def EN:List Lb->Int:=List.foldl (fun s x=>IntKind.u64.wrap (IntKind.u64.wrap (s*1000000000)+(x.1.2:Nat))) 0
theorem Mt (pre:List Lb)(x:Lb):EN (pre++[x])=IntKind.u64.wrap (IntKind.u64.wrap (EN pre*1000000000)+(x.1.2:Nat)):=by simp[EN]
theorem GZ (l:List Nat)(h:okL l)(k:Nat)(hk:k<=l.length):EN (Qv (bk l h) k)=RJ (Ek l (l.length - k)):=by
 induction k with
 | zero=>simp[Qv,EN,De,IK]
 | succ k ih=>
   rw[Pm,Mt,ih (by omega)];have d:l.length - k=l.length - (k+1)+1:=by omega
   have j:(bk l h k).1.2=l.getD (l.length - (k+1)) 0:=by simp only[bk];rw[show l.length - 1 - k=l.length - (k+1) by omega]
   rw[j,d,RU,H8 l (l.length - (k+1)) (by omega)]
theorem KP (F:Fence)(n:Nat)(hf:F.fn 229)(hf1:F.fn 209)(hf2:F.fn 236)(hro:F.round=none)(hn:3<=n)(B:Nat)(v:Value)(l:List Nat)(w:World)(hI:U1 B w v l) :
 CallsIn F n prog 229 #[v] w fun e W'=>e=.returned (.int .u64 (RJ (val l)))/\Up w W':=by
 have Y:1<=n:=by omega
 obtain⟨a,cap,rfl,hl,j,E,hr⟩:=hI;refine callsIn_of_wp_marks func229 rfl hf ?_ hro;simp only[ntmps229,Uh,Yo,Zh,Nat.reduceAdd,Nat.reduceSub,Vu,Vv,Ui,V3,Zw,Yv]
 gi_wp2_with (gi_at_call 209;refine (UR F (n - 1) hf1 hro _ _ _ _).mono ?_;rintro e w' ⟨rfl,rfl⟩)
 have M:=Boxed.new w 169 (.int .u64 0);have O:=Boxed.new (w.alloc (.cells #[.int .u64 0] 169)) 121 (.slice a l.length cap);rw[Ji] at O;have d:Up w ((w.alloc (.cells #[.int .u64 0] 169)).alloc (.cells #[.slice a l.length cap] 121)):=((Jh _ w).alloc Of _).alloc (by simp) _;have J:l=[]∨∃ b off,a=some ⟨b,off,none⟩/\b<w.heap.size/\∀ i,i<l.length->((w.alloc (.cells #[.int .u64 0] 169)).alloc (.cells #[.slice a l.length cap] 121)).cell? ⟨b,off+i,none⟩=some (.int .u32 (l.getD i 0:Nat)):=by
  rcases hr with h|⟨b,off,e,_,hb,hc⟩
  ·exact .inl h
  exact .inr ⟨b,off,e,hb,fun i hi=>(d.cell (p:=⟨b,off+i,none⟩) hb).trans (hc i hi)⟩
 refine wpIn_rangeFunc_ownG hro Y (gf:=236) (lb:=#[.pointer (some ⟨w.heap.size+1,0,none⟩)]) rfl hf2 (enters_of func236 (by kernel_rfl) rfl)
  (Le F (n - 1) hf2 hro (by omega) (w.heap.size+1) w.heap.size _ l E _ (by simp) (by simp;omega) O.cell
    ⟨a,cap,rfl,hl,j,J⟩)
  CZ (FO (by simp;omega) (by simp)) (Jh _ _) (fun _=>rfl)
  (fun pre W=>(W.cell? ⟨w.heap.size,0,none⟩=some (.int .u64 (EN pre))/\W.frozen? ⟨w.heap.size,0,none⟩=false)/\Up w W)
  (fun _ _ _=>False)
  (OwnFrom.and (Own.from (fun s A B row hs hg hr=>⟨cell_kept hs.1 hg hr,(frozen_kept hs.1 hg hr).trans hs.2⟩) _) (ownFrom_below Of (by simp;omega)))
  (fun _ _ _ _ _ hs _ _=>hs)
  ⟨⟨(M.alloc _).cell,(M.alloc _).frozen⟩,d⟩
  (fun x=>{ tmps:=#[.slice a l.length cap,undef,.int .u64 0,.pointer (some ⟨w.heap.size,0,none⟩),undef,.int .u32 (x.1.2:Nat),.slice a l.length cap,.func (.func 236) #[] #[.pointer (some ⟨w.heap.size+1,0,none⟩)],.int .i64 x.1.1,.int .u32 (x.1.2:Nat),undef,undef,undef,undef,undef,undef],defers:=[] }) ?assign ?body ?done ?stop
 case assign=>
  intro U x W K G
  gi_wp2
  exact G
 case body=>
  rintro U pre x W ⟨⟨hc,hf⟩,I⟩ _;have Z:=x.2
  gi_wp2
  exact⟨(KeepsOthers.setCell _ _ _).from _,⟨(Jh w.heap.size W).setCell (p:=⟨w.heap.size,0,none⟩) Of _,Vf (Jq W ⟨w.heap.size,0,none⟩ _ (w.heap.size+1) (Nat.succ_ne_self _))⟩,
   ⟨by rw[Mt];exact World.cell?_setCell_same' _ _ _ (by rw[hc];rfl),by rw[World.frozen?_setCell];exact hf⟩,I.setCell (p:=⟨w.heap.size,0,none⟩) Of _⟩
 case done=>
  rintro D ys W V rfl ⟨⟨hc,_⟩,I⟩ G;rw[GZ l E l.length Of,Nat.sub_self] at hc
  gi_wp2
  refine⟨by simp,.inl ⟨_,_,rfl,run_takeDeferred G,?_⟩⟩;exact⟨_,results_tmp rfl _ _ _,rfl,I.trans (belowK_b (w:=w) Of W D _ _ (by simp at V;omega) G rfl rfl)⟩
 case stop=>
  rintro D c pre W _ _ h _;exact h.elim
theorem C0 (B:Nat)(v:Value)(l:List Nat)(w:World)(h:U1 B w v l) :
 Calls prog 229 #[v] w fun e w'=>e=.returned (.int .u64 (RJ (val l)))/\Up w w':=
 (callsIn_wide (n:=3)).1 (KP Fence.wide 3 trivial trivial trivial rfl Of B v l w h)
theorem Km (x:Int)(h1 : -9223372036854775808<=x)(h2:x<9223372036854775808):IntKind.i64.wrap x=x:=by
 have e:IntKind.i64.wrap x=if x % 18446744073709551616≥9223372036854775808 then x % 18446744073709551616 - 18446744073709551616 else x % 18446744073709551616:=by
  unfold IntKind.wrap;simp[IntKind.bits,IntKind.signed]
 rw[e]
 split<;>omega
theorem I2 (t:List Nat)(h:okL t)(i:Nat):t.getD i 0<1000000000:=by
 by_cases d:i<t.length
 ·exact O9 t h i d
 rw[Jk,Yj (by omega)];decide
theorem Qi (B:Nat)(v:Value)(l:List Nat)(i:Int)(k:Nat)(X:Int)(w:World)(h:U1 B w v l)(hi:i=(k:Int))(hk:k<=1000000)(hX:((l.getD k 0:Nat):Int)=X) :
 Calls prog 243 #[v,.int .i64 i] w fun e w'=>e=.returned (.int .i64 X)/\w'=w:=by
 subst hi hX;exact ZD B v l k w h hk
theorem D9 (B:Nat)(v:Value)(l:List Nat)(n ten K:Nat)(w:World)(h:U1 B w v l)(hn:n<=100000)(hK:ten*K=1000000000)(hlt:Hg l n ten K<1000000000000000000) :
 Calls prog 242 #[v,.int .i64 (n+1:Nat),.int .i64 (ten:Nat)] w fun e w'=>e=.returned (.int .i64 (Hg l n ten K:Nat))/\Up w w':=by
 have HL:=Hd h;obtain⟨p,c,rfl,_,_,A,_⟩:=h;obtain⟨d,h0⟩:∃ X:Int,((l.getD n 0:Nat):Int)=X:=⟨_,rfl⟩;obtain⟨V,h1⟩:∃ X:Int,((l.getD (n+1) 0:Nat):Int)=X:=⟨_,rfl⟩;obtain⟨O,h2⟩:∃ X:Int,((l.getD (n+2) 0:Nat):Int)=X:=⟨_,rfl⟩;have H0:=Hd h0;have H1:=Hd h1;have H2:=Hd h2;have b0:=I2 l A n;have b1:=I2 l A (n+1);have b2:=I2 l A (n+2);obtain⟨T,U⟩:∃ T:Int,(ten:Int)=T:=⟨_,rfl⟩;obtain⟨M,hM⟩:∃ M:Int,(K:Int)=M:=⟨_,rfl⟩;have I:T*M=1000000000:=by rw[<-U,<-hM,<-Z6,hK];rfl
 have b5:1<=T:=by
  have:ten≠0:=by rintro rfl;omega
  omega
 have b4:1<=M:=by
  have:K≠0:=by rintro rfl;omega
  omega
 obtain⟨W,hW⟩:∃ W:Int,O*1000000000+V=W:=⟨_,rfl⟩;have j:((Hg l n ten K:Nat):Int)=W*T+d / M:=by
  unfold Hg;rw[Us,Z6,Us,Z6,Int.natCast_ediv,h0,h1,h2,U,hM,<-hW];rfl
 have G:0<=d:=by omega
 have d4:0<=d / M:=Uq G (by omega);have Y:0<=W:=by omega
 have d0:0<=W*T:=Int.mul_nonneg Y (by omega);have d1:W*T<1000000000000000000:=by omega
 have d9:d / M<1000000000000000000:=by omega
 have b6:=Hd j;have c0:0<=d/\d<1000000000:=by omega
 have c1:0<=V/\V<1000000000:=by omega
 have c2:0<=O/\O<1000000000:=by omega
 have HW:=Hd hW;have Z:=Hd hn;have d5:M<=1000000000:=by
  have:=V8 b5 (show 0<=M by omega);omega
 have d6:T<=1000000000:=by
  have:=V9 b4 (show 0<=T by omega);omega
 have J:Int.tdiv 1000000000 T=M:=by
  rw[Vj (by decide),<-I];exact Int.mul_ediv_cancel_left _ (by omega)
 have E:Int.tdiv d M=d / M:=Vj G;rw[U];clear h0 h1 h2 U hM hK hlt j hW b0 b1 b2 A I
 go_enter func242,ntmps242
 go_wp2_with fail
 refine (Qi B _ l _ (n+2) O _ HL.o (by push_cast;omega) (by have:=Z.o;omega) H2.o).mono ?_;rintro e w' ⟨rfl,b8⟩;subst b8
 go_wp2_with fail
 refine (Qi B _ l _ (n+1) V _ HL.o (by omega) (by have:=Z.o;omega) H1.o).mono ?_;rintro e w2 ⟨rfl,b9⟩;subst b9
 go_upto_region 2 with fail
 rw[HW.o];have q1:IntKind.i64.wrap (W*T)=W*T:=Km _ (by omega) (by omega);have q2:IntKind.i64.wrap (n:Int)=(n:Int):=Km _ (by omega) (by omega);have q3:(T==0)=false:=by rw[Jc];omega
 have q4:(M==0)=false:=by rw[Jc];omega
 have q5:IntKind.i64.wrap (Int.tdiv 1000000000 T)=M:=by rw[J];exact Km _ (by omega) (by omega)
 have q6:IntKind.i64.wrap (d.tdiv M)=d / M:=by rw[E];exact Km _ (by omega) (by omega)
 have q7:IntKind.i64.wrap (W*T+d / M)=W*T+d / M:=Km _ (by omega) (by omega)
 go_quiet (first|(go_at_call 243;refine Calls.quiet_of_same (Qi B _ l _ n d _ HL.o rfl (by have:=Z.o;omega) H0.o)))
 go_wp2
 go_ret
 exact⟨K5 b6.o.symm,below_drewN (Jh _ _) _⟩
theorem X5 (B:Nat)(v:Value)(l:List Nat)(n ten K:Nat)(i T:Int)(w:World)(h:U1 B w v l)(hi:i=((n+1:Nat):Int))(hT:T=((ten:Nat):Int))(hn:n<=100000)(hK:ten*K=1000000000)(hlt:Hg l n ten K<1000000000000000000) :
 Calls prog 242 #[v,.int .i64 i,.int .i64 T] w fun e w'=>e=.returned (.int .i64 (Hg l n ten K:Nat))/\Up w w':=by
 subst hi hT;exact D9 B v l n ten K w h hn hK hlt
def Wc (a b x y:Nat):Prop:=∃ S a' b',a=x*S+a'/\b=y*S+b'/\a'<S/\b'<S/\x<1000000000000000000/\y<=x
theorem PX (a b:List Nat)(n ten K:Nat)(oa:okL a)(ob:okL b)(hla:a.length=n+3)(hlb:b.length<=n+3)(hK:ten*K=1000000000)(ht:a.getD (n+2) 0<K)(hle:val b<=val a) :
 Wc (val a) (val b) (Hg a n ten K) (Hg b n ten K):=by
 obtain⟨A,ha,d⟩:=Fq a oa n (by omega) ten K hK;obtain⟨j,hb,h⟩:=Fq b ob n hlb ten K hK;exact⟨_,A,j,ha,hb,d,h,PB a oa n ten K hK ht,Ag _ _ _ _ _ A j ha hb d hle⟩
theorem Ck (k:Nat)(hk:k<=8):10 ^ k*10 ^ (9 - k)=1000000000:=by
 rw[<-Nat.pow_add,show k+(9 - k)=9 by omega]
theorem DZ (k:Nat)(hk:k<=8):1<=10 ^ k/\10 ^ k<=100000000:=⟨Nat.pow_pos (by decide),by
 have:=Yu (show 0<10 by decide) hk
 exact this⟩
theorem CI (X k:Nat)(hk:k<=8)(h:X*10 ^ k<1000000000):X<10 ^ (9 - k):=by
 apply Classical.byContradiction;intro hn;have d:10 ^ (9 - k)*10 ^ k<=X*10 ^ k:=Yh _ (by omega);rw[Yy,Ck k hk] at d;omega
theorem Do (B:Nat)(va vb:Value)(a b:List Nat)(n:Nat)(w:World)(ha:U1 B w va a)(hb:U1 B w vb b)(hn:n<=100000)(hla:a.length=n+3)(hlb:b.length<=n+3)(hta:1<=a.getD (n+2) 0)(hle:val b<=val a) :
 Calls prog 226 #[va,vb] w fun e w'=>∃ x y:Nat,e=.returned (.tuple #[.int .i64 (x:Nat),.int .i64 (y:Nat)])/\Wc (val a) (val b) x y/\Up w w':=by
 have HA:Hid (∀ W,Up w W->U1 B W va a):=fun W hW=>ha.below hW;have HB:Hid (∀ W,Up w W->U1 B W vb b):=fun W hW=>hb.below hW;obtain⟨pa,ca,rfl,_⟩:=id ha;obtain⟨pb,cb,rfl,_⟩:=id hb;obtain⟨_,_,_,A,a8⟩:=ha.cells;obtain⟨_,_,_,U,_⟩:=hb.cells;obtain⟨ba,oa,rfl,b8,d⟩:=a8 (n+2) (by omega);have I:Hid (∀ k,k<=8->a.getD (n+2) 0*10 ^ k<1000000000->Wc (val a) (val b) (Hg a n (10 ^ k) (10 ^ (9 - k))) (Hg b n (10 ^ k) (10 ^ (9 - k)))):=fun k hk h=>
  PX a b n _ _ A U hla hlb (Ck k hk) (CI _ k hk h) hle
 have c6:=I2 a A (n+2);obtain⟨x,hx⟩:=O1 (a.getD (n+2) 0);rw[hx] at d c6 hta I;have HC:Hid (∀ W,Up w W->W.cell? ⟨ba,oa+(n+2),none⟩=some (.int .u32 (x:Nat))):=fun W hW=>(hW.cell (p:=⟨ba,oa+(n+2),none⟩) b8).trans d;have c8:=Hd hla;rw[hla];clear a8 d ha hb hle hla hx hlb
 go_enter func226,ntmps226
 go_wp2
 go_loopw [7] (fun tv wr=>∃ k:Nat,k<=8/\tv=.int .i64 ((10 ^ k:Nat):Int)/\x*10 ^ k<1000000000/\Up w wr) (fun tv _=>(1000000000 - intOf tv).toNat)
 case atStart=>exact⟨0,by omega,rfl,by omega,Jh _ _⟩
 case round=>
  obtain⟨k,hk,rfl,a7,hB⟩:=hrel;have d:=HC.o _ hB;have hp:=DZ k hk;have d2:Hid (x*10 ^ k*10<1000000000->k+1<=8):=fun h=>by
   apply Classical.byContradiction;intro hn;obtain rfl:k=8:=by omega
   simp only[Nat.reducePow] at h;omega
  have d1:Hid (((10 ^ k:Nat):Int)*10=((10 ^ (k+1):Nat):Int)):=by
   unfold Hid
   rw[J5,Z6];rfl
  have b9:Hid (x*10 ^ (k+1)=x*10 ^ k*10):=by unfold Hid;rw[J5,Yt]
  have j:=Hd hB;have K:=Hd (I.o k hk a7);have Y:=Hd hk;obtain⟨T,hT⟩:∃ T:Int,((10 ^ k:Nat):Int)=T:=⟨_,rfl⟩;have HT:=Hd hT;have t1:1<=T:=by omega
  have t2:T<=100000000:=by omega
  obtain⟨X,hX⟩:∃ X:Int,(x:Int)=X:=⟨_,rfl⟩;have HX:=Hd hX;have J:((x*10 ^ k:Nat):Int)=X*T:=by rw[<-hX,<-hT];exact Z6 _ _
  have M:=Hd J;have x1:0<=X*T:=by omega
  have x2:X*T<1000000000:=by omega
  have x3:0<=X/\X<1000000000:=by omega
  rw[hX] at d;rw[hT];clear hT hX J hp a7 hB
  by_cases hc:X*T*10<1000000000
  ·have hd:decide (X*T*10<1000000000)=true:=Jb hc
   go_wp2
   go_roundw
   case rel=>
    have e1:k+1<=8:=d2.o (by have:=M.o;omega);refine⟨k+1,e1,?_,?_,j.o⟩
    ·rw[<-d1.o,HT.o]
    ·rw[b9.o];have:=M.o;omega
   case measure=>simp[intOf];omega
  ·have hd:decide (X*T*10<1000000000)=false:=Jg hc;have HD:Hid (Hg a n (10 ^ k) (10 ^ (9 - k))<1000000000000000000/\Hg b n (10 ^ k) (10 ^ (9 - k))<1000000000000000000):=by
    obtain⟨_,_,_,_,_,_,_,h1,h2⟩:=K.o;exact⟨h1,by omega⟩
   have O:=Hd (HA.o _ j.o);have b7:=Hd (HB.o _ j.o);rw[c8.o] at O
   go_wp2_with fail
   refine (X5 B _ a n (10 ^ k) (10 ^ (9 - k)) _ _ _ O.o (by omega) HT.o.symm hn (Ck k Y.o) HD.o.1).mono ?_;rintro e w2 ⟨rfl,E⟩;have G:=Hd (b7.o.below E);have Z:=Hd (j.o.trans (E.mono j.o.size));clear E
   go_wp2_with fail
   refine (X5 B _ b n (10 ^ k) (10 ^ (9 - k)) _ _ _ G.o (by omega) HT.o.symm hn (Ck k Y.o) HD.o.2).mono ?_;rintro e w3 ⟨rfl,V⟩;have d0:=Hd (Z.o.trans (V.mono Z.o.size));clear V
   go_wp2
   go_ret2
   exact⟨_,_,rfl,K.o,d0.o⟩
def NS (w:World):Prop:=
 w.cell? ⟨2,0,none⟩=some (.int .i64 1)/\w.cell? ⟨2,1,none⟩=some (.int .i64 0)/\w.cell? ⟨2,2,none⟩=some (.int .i64 0)/\w.cell? ⟨2,3,none⟩=some (.int .i64 1)
theorem NS.below {w w':World}(h:NS w)(hb:Up w w'):NS w':=by
 have d:=R0 h.1;unfold NS at *;simp only[fun o=>hb.cell (p:=⟨2,o,none⟩) d];exact h
def LI (x0 y0:Nat)(A B C D:Int):Prop:=∃ x y,CK x0 y0 A B C D x y
theorem P9 (x0 y0:Nat)(w:World)(hx0:x0<1000000000000000000)(hle:y0<=x0)(h:NS w) :
 Calls prog 225 #[.int .i64 (x0:Nat),.int .i64 (y0:Nat)] w fun e w'=>∃ A B C D:Int,e=.returned (.agg #[.int .i64 A,.int .i64 B,.int .i64 C,.int .i64 D])/\LI x0 y0 A B C D/\Up w w':=by
 have j6:=R0 h.1;obtain⟨n0,n1,n2,n3⟩:=h
 go_enter func225,ntmps225
 go_wp2
 have d5:Up w ((w.alloc (.cells #[.int .i64 0,.int .i64 0,.int .i64 0,.int .i64 0] 232)).alloc (.cells #[.int .i64 1,.int .i64 0,.int .i64 0,.int .i64 1] 232)):=((Jh _ w).alloc Of _).alloc (by simp) _;have d4:Bx ((w.alloc (.cells #[.int .i64 0,.int .i64 0,.int .i64 0,.int .i64 0] 232)).alloc (.cells #[.int .i64 1,.int .i64 0,.int .i64 0,.int .i64 1] 232)) w.heap.size [.int .i64 0,.int .i64 0,.int .i64 0,.int .i64 0]:=(Ox w _ _).alloc _;have b7:Bx ((w.alloc (.cells #[.int .i64 0,.int .i64 0,.int .i64 0,.int .i64 0] 232)).alloc (.cells #[.int .i64 1,.int .i64 0,.int .i64 0,.int .i64 1] 232)) (w.heap.size+1) [.int .i64 1,.int .i64 0,.int .i64 0,.int .i64 1]:=by
  have:=Ox (w.alloc (.cells #[.int .i64 0,.int .i64 0,.int .i64 0,.int .i64 0] 232)) [.int .i64 1,.int .i64 0,.int .i64 0,.int .i64 1] 232;rw[Ji] at this;exact this
 generalize (w.alloc (.cells #[.int .i64 0,.int .i64 0,.int .i64 0,.int .i64 0] 232)).alloc (.cells #[.int .i64 1,.int .i64 0,.int .i64 0,.int .i64 1] 232)=W0 at *
 go_loopw [0,1] (fun xv yv wr=>∃ A B C D x y:Int,xv=.int .i64 x/\yv=.int .i64 y/\CK x0 y0 A B C D x y/\Bx wr w.heap.size [.int .i64 0,.int .i64 0,.int .i64 0,.int .i64 0]/\Bx wr (w.heap.size+1) [.int .i64 A,.int .i64 B,.int .i64 C,.int .i64 D]/\Up w wr)
  (fun _ yv wr=>(intOf yv+intOf ((wr.cell? ⟨w.heap.size+1,2,none⟩).getD (.int .i64 0))).toNat)
 case atStart=>exact⟨1,0,0,1,x0,y0,rfl,rfl,IJ x0 y0 hle,d4,b7,d5⟩
 case round=>
  clear d4 b7 d5 n0 n1 n2 n3;obtain⟨A,B,C,D,x,y,rfl,rfl,hS,hX,G,hB⟩:=hrel;obtain⟨⟨a1,a2⟩,⟨b1,b2⟩,⟨c1,c2⟩,⟨d1,d2⟩,⟨x1,x2⟩,⟨y1,y2⟩,⟨p1,p2⟩,p3,p4⟩:=Ba x0 y0 A B C D x y hS hx0 hle;obtain⟨e0,e1,e2,e3⟩:=G.k4;have HS:=Hd hS;have d:=Hd hX;have Y:=Hd G;have E:=Hd hB;clear hS hX G hB;have w1:IntKind.i64.wrap (y+C)=y+C:=Km _ (by omega) (by omega);have w2:IntKind.i64.wrap (y+D)=y+D:=Km _ (by omega) (by omega);have w3:IntKind.i64.wrap (x+A)=x+A:=Km _ (by omega) (by omega);have w4:IntKind.i64.wrap (x+B)=x+B:=Km _ (by omega) (by omega)
  by_cases hg:0<y+C/\0<y+D
  ·obtain⟨g1,g2⟩:=hg;obtain⟨k,hk⟩:=O1 ((x+A) / (y+C));obtain⟨m,hm⟩:=O1 ((x+B) / (y+D));have w5:IntKind.i64.wrap ((x+A).tdiv (y+C))=k:=by
    have h0:0<=k:=by rw[<-hk];exact Uq p1 (by omega)
    have h1:k<=x+A:=by rw[<-hk];exact Int.ediv_le_self _ p1
    rw[Vj p1,hk];exact Km _ (by omega) (by omega)
   have w6:IntKind.i64.wrap ((x+B).tdiv (y+D))=m:=by
    have h0:0<=m:=by rw[<-hm];exact Uq p2 (by omega)
    have h1:m<=x+B:=by rw[<-hm];exact Int.ediv_le_self _ p2
    rw[Vj p2,hm];exact Km _ (by omega) (by omega)
   have z1:(y+C==0)=false:=by rw[Jc];omega
   have z2:(y+D==0)=false:=by rw[Jc];omega
   by_cases d0:k=m
   ·subst d0;obtain⟨I,j7,j⟩:=XA x0 y0 A B C D x y HS.o hx0 hle g1 g2 k hk hm;obtain⟨C',U⟩:=O1 (A - k*C);obtain⟨D',b5⟩:=O1 (B - k*D);obtain⟨y',Z⟩:=O1 (x - k*y);rw[U,b5,Z] at I;rw[U,Z] at j;obtain⟨_,_,⟨j4,j9⟩,⟨i8,j5⟩,_,⟨j0,h8⟩,_⟩:=Ba x0 y0 _ _ _ _ _ _ I hx0 hle;have w7:IntKind.i64.wrap (k*C)=k*C:=Km _ (by omega) (by omega);have w8:IntKind.i64.wrap (k*D)=k*D:=Km _ (by omega) (by omega);have w9:IntKind.i64.wrap (A - k*C)=C':=by rw[U];exact Km _ (by omega) (by omega)
    have i1:IntKind.i64.wrap (B - k*D)=D':=by rw[b5];exact Km _ (by omega) (by omega)
    have i6:IntKind.i64.wrap (k*y)=k*y:=Km _ (by omega) (by omega);have h9:IntKind.i64.wrap (x - k*y)=y':=by rw[Z];exact Km _ (by omega) (by omega)
    have f8:=Hd I;have f5:=Hd j;clear I j hk hm
    go_wp2
    have hN:=Y.o.lt;obtain⟨N,a7⟩:=O1 wr.heap.size;have V:=Ox wr [.int .i64 0,.int .i64 0] 230;have c6:=Y.o.alloc (.cells #[.int .i64 0,.int .i64 0] 230);have b6:=d.o.alloc (.cells #[.int .i64 0,.int .i64 0] 230);have b8:=E.o.alloc E.o.size (.cells #[.int .i64 0,.int .i64 0] 230);rw[a7] at V hN;rw[a7];have J:Bx (wr.alloc (.cells #[.int .i64 0,.int .i64 0] 230)) N [.int .i64 0,.int .i64 0]:=V;have e9:=Hd e2;clear V a7 e0 e1 e2 e3;generalize wr.alloc (.cells #[.int .i64 0,.int .i64 0] 230)=W1 at *;clear d Y E
    go_loopw [48] (fun iv wr=>∃ i u v:Int,iv=.int .i64 i/\((i=0/\u=0/\v=0)∨(i=1/\u=C'/\v=0)∨(i=2/\u=C'/\v=D'))/\Bx wr N [.int .i64 u,.int .i64 v]/\Bx wr (w.heap.size+1) [.int .i64 A,.int .i64 B,.int .i64 C,.int .i64 D]/\Bx wr w.heap.size [.int .i64 0,.int .i64 0,.int .i64 0,.int .i64 0]/\Up w wr)
     (fun iv _=>(2 - intOf iv).toNat)
    case atStart=>exact⟨0,0,0,rfl,.inl ⟨rfl,rfl,rfl⟩,J,c6,b6,b8⟩
    case round=>
     clear J c6 b6 b8;obtain⟨i,u,v,rfl,d7,hn,G,hX,hB⟩:=hrel;obtain⟨e0,e1,e2,e3⟩:=G.k4;obtain⟨f0,f1⟩:=hn.k2;obtain⟨r0,r1⟩:=hn.f2;obtain⟨t0,t1,t2,t3⟩:=G.f4;have i7:=hn.lt;have k7:=G.lt;have HN:=Hd hn;have d:=Hd hX;have Y:=Hd G;have E:=Hd hB;clear hn hX G hB
     rcases d7 with⟨rfl,rfl,rfl⟩|⟨rfl,rfl,rfl⟩|⟨rfl,rfl,rfl⟩
     ·go_wp2
      go_region
      go_wp2
      go_roundw
      case rel=>exact⟨1,_,_,by go_num,.inr (.inl ⟨rfl,rfl,rfl⟩),(HN.o.set 0 _).drew,(Y.o.other _ (by show N≠_;omega) _).drew,(d.o.other _ (by show N≠_;omega) _).drew,(E.o.setCell (p:=⟨N,0,none⟩) (by show _<=N;omega) _).drew⟩
      case measure=>simp[intOf]
     ·go_wp2
      go_region
      go_wp2
      go_roundw
      case rel=>exact⟨2,_,_,by go_num,.inr (.inr ⟨rfl,rfl,rfl⟩),(HN.o.set 1 _).drew,(Y.o.other _ (by show N≠_;omega) _).drew,(d.o.other _ (by show N≠_;omega) _).drew,(E.o.setCell (p:=⟨N,1,none⟩) (by show _<=N;omega) _).drew⟩
      case measure=>simp[intOf]
     ·go_wp2
      go_region
      go_wp2
      have b9:Hid (Bx (((((wr.setCell ⟨w.heap.size+1,0,none⟩ (.int .i64 C)).setCell ⟨w.heap.size+1,1,none⟩ (.int .i64 D)).setCell ⟨w.heap.size+1,2,none⟩ (.int .i64 u)).setCell ⟨w.heap.size+1,3,none⟩ (.int .i64 v)).drew) (w.heap.size+1) [.int .i64 C,.int .i64 D,.int .i64 u,.int .i64 v]):=
       ((((Y.o.set 0 _).set 1 _).set 2 _).set 3 _).drew
      have f9:Hid (Bx (((((wr.setCell ⟨w.heap.size+1,0,none⟩ (.int .i64 C)).setCell ⟨w.heap.size+1,1,none⟩ (.int .i64 D)).setCell ⟨w.heap.size+1,2,none⟩ (.int .i64 u)).setCell ⟨w.heap.size+1,3,none⟩ (.int .i64 v)).drew) w.heap.size [.int .i64 0,.int .i64 0,.int .i64 0,.int .i64 0]):=
       ((((d.o.other ⟨w.heap.size+1,0,none⟩ (by simp) _).other ⟨w.heap.size+1,1,none⟩ (by simp) _).other ⟨w.heap.size+1,2,none⟩ (by simp) _).other ⟨w.heap.size+1,3,none⟩ (by simp) _).drew
      have g0:Hid (Up w (((((wr.setCell ⟨w.heap.size+1,0,none⟩ (.int .i64 C)).setCell ⟨w.heap.size+1,1,none⟩ (.int .i64 D)).setCell ⟨w.heap.size+1,2,none⟩ (.int .i64 u)).setCell ⟨w.heap.size+1,3,none⟩ (.int .i64 v)).drew)):=
       ((((E.o.setCell (p:=⟨w.heap.size+1,0,none⟩) (Y1 _) _).setCell (p:=⟨w.heap.size+1,1,none⟩) (Y1 _) _).setCell (p:=⟨w.heap.size+1,2,none⟩) (Y1 _) _).setCell (p:=⟨w.heap.size+1,3,none⟩) (Y1 _) _).drew
      go_roundw
      case rel=>exact⟨C,D,u,v,y,y',rfl,rfl,f8.o,f9.o,b9.o,g0.o⟩
      case measure=>
       have O:=b9.o.cell 2;simp only[Jo,Jr] at O;rw[O,e9.o];have:=f5.o;simp only[Um,intOf];omega
   ·have z3:(k != m)=true:=by rw[bne_iff_ne];exact d0
    obtain⟨K,M,k2,k3⟩:=d.o.k4;obtain⟨r0,r1,r2,r3⟩:=d.o.f4
    go_wp2
    have hZ:Bx ((((wr.setCell ⟨w.heap.size,0,none⟩ (.int .i64 A)).setCell ⟨w.heap.size,1,none⟩ (.int .i64 B)).setCell ⟨w.heap.size,2,none⟩ (.int .i64 C)).setCell ⟨w.heap.size,3,none⟩ (.int .i64 D)) w.heap.size [.int .i64 A,.int .i64 B,.int .i64 C,.int .i64 D]:=(((d.o.set 0 _).set 1 _).set 2 _).set 3 _;have hE:Up w ((((wr.setCell ⟨w.heap.size,0,none⟩ (.int .i64 A)).setCell ⟨w.heap.size,1,none⟩ (.int .i64 B)).setCell ⟨w.heap.size,2,none⟩ (.int .i64 C)).setCell ⟨w.heap.size,3,none⟩ (.int .i64 D)):=(((E.o.setCell (p:=⟨w.heap.size,0,none⟩) Of _).setCell (p:=⟨w.heap.size,1,none⟩) Of _).setCell (p:=⟨w.heap.size,2,none⟩) Of _).setCell (p:=⟨w.heap.size,3,none⟩) Of _;generalize (((wr.setCell ⟨w.heap.size,0,none⟩ (.int .i64 A)).setCell ⟨w.heap.size,1,none⟩ (.int .i64 B)).setCell ⟨w.heap.size,2,none⟩ (.int .i64 C)).setCell ⟨w.heap.size,3,none⟩ (.int .i64 D)=W5 at *;obtain⟨K,M,k2,k3⟩:=hZ.k4;refine Jj (v:=.agg #[.int .i64 A,.int .i64 B,.int .i64 C,.int .i64 D]) ?_ rfl ⟨A,B,C,D,rfl,⟨x,y,HS.o⟩,hE⟩;simp[results,results225,go_sem,K,M,k2,k3]
  ·by_cases g1:0<y+C
   ·have g2:¬ 0<y+D:=fun h=>hg ⟨g1,h⟩;obtain⟨K,M,k2,k3⟩:=d.o.k4;obtain⟨r0,r1,r2,r3⟩:=d.o.f4
    go_wp2
    have hZ:Bx ((((wr.setCell ⟨w.heap.size,0,none⟩ (.int .i64 A)).setCell ⟨w.heap.size,1,none⟩ (.int .i64 B)).setCell ⟨w.heap.size,2,none⟩ (.int .i64 C)).setCell ⟨w.heap.size,3,none⟩ (.int .i64 D)) w.heap.size [.int .i64 A,.int .i64 B,.int .i64 C,.int .i64 D]:=(((d.o.set 0 _).set 1 _).set 2 _).set 3 _;have hE:Up w ((((wr.setCell ⟨w.heap.size,0,none⟩ (.int .i64 A)).setCell ⟨w.heap.size,1,none⟩ (.int .i64 B)).setCell ⟨w.heap.size,2,none⟩ (.int .i64 C)).setCell ⟨w.heap.size,3,none⟩ (.int .i64 D)):=(((E.o.setCell (p:=⟨w.heap.size,0,none⟩) Of _).setCell (p:=⟨w.heap.size,1,none⟩) Of _).setCell (p:=⟨w.heap.size,2,none⟩) Of _).setCell (p:=⟨w.heap.size,3,none⟩) Of _;generalize (((wr.setCell ⟨w.heap.size,0,none⟩ (.int .i64 A)).setCell ⟨w.heap.size,1,none⟩ (.int .i64 B)).setCell ⟨w.heap.size,2,none⟩ (.int .i64 C)).setCell ⟨w.heap.size,3,none⟩ (.int .i64 D)=W5 at *;obtain⟨K,M,k2,k3⟩:=hZ.k4;refine Jj (v:=.agg #[.int .i64 A,.int .i64 B,.int .i64 C,.int .i64 D]) ?_ rfl ⟨A,B,C,D,rfl,⟨x,y,HS.o⟩,hE⟩;simp[results,results225,go_sem,K,M,k2,k3]
   ·obtain⟨K,M,k2,k3⟩:=d.o.k4;obtain⟨r0,r1,r2,r3⟩:=d.o.f4
    go_wp2
    have hZ:Bx ((((wr.setCell ⟨w.heap.size,0,none⟩ (.int .i64 A)).setCell ⟨w.heap.size,1,none⟩ (.int .i64 B)).setCell ⟨w.heap.size,2,none⟩ (.int .i64 C)).setCell ⟨w.heap.size,3,none⟩ (.int .i64 D)) w.heap.size [.int .i64 A,.int .i64 B,.int .i64 C,.int .i64 D]:=(((d.o.set 0 _).set 1 _).set 2 _).set 3 _;have hE:Up w ((((wr.setCell ⟨w.heap.size,0,none⟩ (.int .i64 A)).setCell ⟨w.heap.size,1,none⟩ (.int .i64 B)).setCell ⟨w.heap.size,2,none⟩ (.int .i64 C)).setCell ⟨w.heap.size,3,none⟩ (.int .i64 D)):=(((E.o.setCell (p:=⟨w.heap.size,0,none⟩) Of _).setCell (p:=⟨w.heap.size,1,none⟩) Of _).setCell (p:=⟨w.heap.size,2,none⟩) Of _).setCell (p:=⟨w.heap.size,3,none⟩) Of _;generalize (((wr.setCell ⟨w.heap.size,0,none⟩ (.int .i64 A)).setCell ⟨w.heap.size,1,none⟩ (.int .i64 B)).setCell ⟨w.heap.size,2,none⟩ (.int .i64 C)).setCell ⟨w.heap.size,3,none⟩ (.int .i64 D)=W5 at *;obtain⟨K,M,k2,k3⟩:=hZ.k4;refine Jj (v:=.agg #[.int .i64 A,.int .i64 B,.int .i64 C,.int .i64 D]) ?_ rfl ⟨A,B,C,D,rfl,⟨x,y,HS.o⟩,hE⟩;simp[results,results225,go_sem,K,M,k2,k3]
theorem Fi (x y:Nat)(w:World)(hx:x<18446744073709551616)(hy:y<18446744073709551616) :
 Calls prog 228 #[.int .u64 (x:Nat),.int .u64 (y:Nat)] w fun e w'=>e=.returned (.int .u64 (Nat.gcd x y:Nat))/\Up w w':=by
 obtain⟨d,G⟩:=O1 (Nat.gcd x y);have HD:=Hd G;rw[G];clear G
 go_enter func228,ntmps228
 go_wp2
 go_loopw [0,1] (fun xv yv wr=>∃ a b:Nat,xv=.int .u64 (a:Nat)/\yv=.int .u64 (b:Nat)/\Nat.gcd a b=d/\a<18446744073709551616/\b<18446744073709551616/\Up w wr) (fun _ yv _=>(intOf yv).toNat)
 case atStart=>exact⟨x,y,rfl,rfl,HD.o,hx,hy,Jh _ _⟩
 case round=>
  obtain⟨a,b,rfl,rfl,O,ha,hb,hB⟩:=hrel;have V:=Hd O;have Y:=Hd hB;clear O hB
  by_cases I:b=0
  ·subst I;have HA:Hid (a=d):=by have:=V.o;rw[Nat.gcd_zero_right] at this;exact this
   go_wp2
   go_ret
   exact⟨K5 (by rw[HA.o]),Y.o⟩
  ·have J:Hid (Nat.gcd b (a % b)=d):=by
    unfold Hid
    rw[<-V.o,Uz a b,Nat.gcd_rec b a,Uz]
   have j:=Zx a (Yp I);obtain⟨A,K⟩:∃ A:Int,(a:Int)=A:=⟨_,rfl⟩;obtain⟨C,E⟩:∃ C:Int,(b:Int)=C:=⟨_,rfl⟩;have M:A % C=((a % b:Nat):Int):=by rw[<-K,<-E];rfl
   have Z:Hid (A % C=((a % b:Nat):Int)):=M;have U:=Hd E;have h:Hid (a % b<b/\b<18446744073709551616):=⟨j,hb⟩;have c1:0<C:=by omega
   have c2:C<18446744073709551616:=by omega
   have a1:0<=A:=by omega
   have a2:A<18446744073709551616:=by omega
   rw[K,E];clear M K E I j ha hb
   go_wp2
   go_quiet (fail)
   go_wp2
   go_roundw
   case rel=>exact⟨b,a % b,Ob U.o.symm,Ob Z.o,J.o,h.o.2,by have:=h.o;omega,below_drewN Y.o _⟩
   case measure=>simp[intOf];have:=Z.o;have:=U.o;have:=h.o.1;omega
theorem O6.drewN {w:World}{R:Nat}{l:List Nat}(h:O6 w R l)(n:Nat):O6 (w.drewN n) R l:=by
 obtain⟨t,h⟩:=h;exact⟨t,((below_drewN (Jh _ w) n).block R (J2.1 h).1).trans h⟩
theorem Bx.drewN {W:World}{g:Nat}{l:List Value}(h:Bx W g l)(n:Nat):Bx (W.drewN n) g l:=h.below h.lt (below_drewN (Jh _ W) n)
theorem UW (P VL VN c s x y f0 f1 Va Vb low c':Int)(h:VL+P*c=f0*Va+f1*Vb)(hs:s=c+(f0*x+f1*y))(hN:VN=VL+P*low)(hl:s=low+1000000000*c') :
 VN+P*1000000000*c'=f0*(Va+P*x)+f1*(Vb+P*y):=by
 have d:P*s=P*low+P*1000000000*c':=by rw[hl];grind
 have j:P*s=P*c+f0*(P*x)+f1*(P*y):=by rw[hs];grind
 rw[hN]
 grind
theorem IR (f X:Int)(h1 : -1000000000<f)(h2:f<1000000000)(h3:0<=X)(h4:X<1000000000) : -999999998000000001<=f*X/\f*X<=999999998000000001:=by
 have d:f*X<=999999999*X:=V8 (by omega) h3;have h : -999999999*X<=f*X:=V8 (by omega) h3;constructor<;>omega
theorem LG (S:Int):S=S.tmod 1000000000+1000000000*S.tdiv 1000000000:=by
 have:=Int.tmod_add_mul_tdiv S 1000000000;omega
theorem DT (S:Int) : -1000000000<S.tmod 1000000000/\S.tmod 1000000000<1000000000:=by
 have d:=Int.tmod_lt_of_pos S (show (0:Int)<1000000000 by decide);have h:=Int.lt_tmod_of_pos S (show (0:Int)<1000000000 by decide);omega
theorem IE (P VL c V:Int)(h:VL+P*c=V)(h1:0<=VL)(h2:VL<P)(h3:0<=V)(h4:V<P):c=0:=by
 rcases Int.lt_trichotomy c 0 with h5|h5|h5
 ·have:=V9 (show c <= -1 by omega) (show 0<=P by omega);omega
 ·exact h5
 have:=V9 (show 1<=c by omega) (show 0<=P by omega);omega
theorem Dq (B:Nat)(va vb:Value)(a b:List Nat)(f0 f1:Int)(V:Nat)(w:World)(ha:U1 B w va a)(hb:U1 B w vb b)(hla:a.length<=100000)(hlb:b.length<=a.length)(hf0 : -1000000000<f0/\f0<1000000000)(hf1 : -1000000000<f1/\f1<1000000000)
 (hV:f0*val a+f1*val b=V) (hVl:V<1000000000 ^ a.length) :
 Calls prog 227 #[va,vb,.agg #[.int .i64 f0,.int .i64 f1]] w fun e w'=>∃ v L,e=.returned v/\U1 w.heap.size w' v L/\isTrim L/\val L=V/\L.length<=a.length/\Up w w':=by
 obtain⟨i0,b9,e3,e5,d7⟩:=info_parts info_u32;have f9:Hid (∀ W,Up w W->U1 B W vb b):=fun W hW=>hb.below hW;obtain⟨pa,ca,rfl,_⟩:=id ha;obtain⟨pb,cb,rfl,_⟩:=id hb;obtain⟨_,_,_,d1,J⟩:=ha.cells;obtain⟨_,_,_,c6,_⟩:=hb.cells;have HA:=Hd J;clear J ha hb
 go_enter func227,ntmps227
 go_wp2_with (at_make;refine wpList_make_full _ rfl _ _ 121 rfl w.heap.size 154 i0 (.int .u32 0) 1 underlying121 b9 e3 e5 .i64 .i64 _ _ a.length rfl rfl (by first|rfl|omega) (by first|rfl|omega) (by first|omega|(rw[d7];omega)) (by unfold maxLen;omega) (by simp) ?_)
 intro w1 G d3
 first|rw[K8] at G|rw[Ka] at G
 have K:O6 w1 (w.heap.size+1) (List.replicate a.length 0):=(Kp G).tail;have a7:Below (w.heap.size+1) (w.alloc (.cells #[.int .i64 f0,.int .i64 f1] 230)) w1:=(Jh _ _).grown d3 (by simp) (fun k h=>by cases h);have hF:Bx w1 w.heap.size [.int .i64 f0,.int .i64 f1]:=(Ox w [.int .i64 f0,.int .i64 f1] 230).below (Yi _) a7;have b7:Up w w1:=(Oy w _).trans (a7.mono (Y1 _));clear G d3 a7
 go_wp2
 go_loopw [8,16] (fun cv iv wr=>∃ (i:Nat) (c:Int) (L:List Nat),i<=a.length/\cv=.int .i64 c/\iv=.int .i64 (i:Nat)/\(-2000000000<=c/\c<=2000000000)/\L.length=a.length/\okL L/\O6 wr (w.heap.size+1) L/\Bx wr w.heap.size [.int .i64 f0,.int .i64 f1] /\
  (val (L.take i):Int)+(1000000000 ^ i:Nat)*c=f0*val (a.take i)+f1*val (b.take i)/\Up w wr) (fun _ iv _=>a.length - (intOf iv).toNat)
 case atStart=>exact⟨0,0,_,Jy _,rfl,rfl,by omega,by simp,fun x hx=>by rw[Yr hx];omega,K,hF,by simp[val],b7⟩
 case round=>
  clear K hF b7;obtain⟨i,c,L,hi,rfl,rfl,⟨g4,g7⟩,b3,E,K,hF,d,hB⟩:=hrel
  by_cases b8:i<a.length
  ·obtain⟨ba,oa,rfl,d0,J⟩:=HA.o i b8;rw[<-hB.cell (p:=⟨ba,oa+i,none⟩) d0] at J;have e7:=O9 a d1 i b8;have e4:=I2 b c6 i;obtain⟨X,hX⟩:∃ X:Int,((a.getD i 0:Nat):Int)=X:=⟨_,rfl⟩;obtain⟨Y,hY⟩:∃ Y:Int,((b.getD i 0:Nat):Int)=Y:=⟨_,rfl⟩;rw[hX] at J;obtain⟨m1,m2⟩:=IR f0 X hf0.1 hf0.2 (by omega) (by omega);obtain⟨m3,m4⟩:=IR f1 Y hf1.1 hf1.2 (by omega) (by omega);obtain⟨S,hS⟩:=O1 (c+(f0*X+f1*Y));obtain⟨R,U⟩:=O1 (S.tmod 1000000000);obtain⟨Q,hQ⟩:=O1 (S.tdiv 1000000000);have Z:=LG S;have f5:=DT S;rw[U,hQ] at Z;rw[U] at f5;have x1:0<=X/\X<1000000000:=by omega
   have y1:0<=Y/\Y<1000000000:=by omega
   have b6:Hid (∀ (low:Nat) (c':Int),S=low+1000000000*c'->(val ((L.set i low).take (i+1)):Int)+(1000000000 ^ (i+1):Nat)*c'=f0*val (a.take (i+1))+f1*val (b.take (i+1))):=fun low c' hl=>by
    rw[O2 L i low (by omega),Ok a i,Ok b i,J5,Us,Us,Us,Z6,Z6,Z6,Z6,hX,hY];exact UW _ _ _ c S X Y f0 f1 _ _ low c' d hS.symm rfl hl
   have u1:IntKind.i64.wrap (f0*X)=f0*X:=Km _ (by omega) (by omega);have u2:IntKind.i64.wrap (f1*Y)=f1*Y:=Km _ (by omega) (by omega);have u3:IntKind.i64.wrap (f0*X+f1*Y)=f0*X+f1*Y:=Km _ (by omega) (by omega);have u4:IntKind.i64.wrap (c+(f0*X+f1*Y))=S:=by rw[hS];exact Km _ (by omega) (by omega)
   have u5:IntKind.i64.wrap (S.tmod 1000000000)=R:=by rw[U];exact Km _ (by omega) (by omega)
   have u6:IntKind.i64.wrap (S.tdiv 1000000000)=Q:=by rw[hQ];exact Km _ (by omega) (by omega)
   obtain⟨e0,e1⟩:=hF.k2;have d6:=K.cell i (by omega);have h1:=K.frozen i;have HY:=Hd hY;have HR:=Hd K;have HF:=Hd hF;have HB:=Hd hB;have e8:=Hd E;have a8:=Hd b3;have HI:=Hd (f9.o _ hB);have q1 : -1999999999<=Q/\Q<=1999999999:=by omega
   have M:Hid (∀ (nq:Nat) (low:Nat),low<1000000000->O6 ((wr.drewN nq).setCell ⟨w.heap.size+1,i,none⟩ (.int .u32 (low:Nat))) (w.heap.size+1) (L.set i low)/\okL (L.set i low)):=fun nq low hl=>
    ⟨O6.set (w:=wr.drewN nq) (HR.o.drewN nq) i low (by have:=a8.o;omega),U4 L e8.o i low hl⟩
   have O:Hid (∀ (nq:Nat) (u:Value),Bx ((wr.drewN nq).setCell ⟨w.heap.size+1,i,none⟩ u) w.heap.size [.int .i64 f0,.int .i64 f1]/\Up w ((wr.drewN nq).setCell ⟨w.heap.size+1,i,none⟩ u)):=fun nq u=>
    ⟨(HF.o.drewN nq).other _ (by simp) u,(below_drewN HB.o nq).setCell (p:=⟨w.heap.size+1,i,none⟩) (Y1 _) u⟩
   have c8:=Hd Z;clear K hF hB E d hY hX hS e7 e4 Z
   go_upto_region 6 with fail
   go_quiet (first|(go_at_call 243;refine Calls.quiet_of_same (Qi B _ b _ i Y _ HI.o rfl (by omega) HY.o)))
   by_cases g0:R<0
   ·have u7:IntKind.i64.wrap (R+1000000000)=R+1000000000:=Km _ (by omega) (by omega);have u8:IntKind.i64.wrap (Q - 1)=Q - 1:=Km _ (by omega) (by omega);obtain⟨low,j⟩:∃ low:Nat,R+1000000000=(low:Int):=⟨(R+1000000000).toNat,by omega⟩;have A:=Hd j;have I:low<1000000000:=by omega
    clear j
    go_wp2
    rw[A.o]
    go_roundw
    case rel=>exact⟨i+1,Q - 1,L.set i low,by omega,rfl,by go_num,by omega,by rw[List.length_set];exact a8.o,(M.o nq low I).2,(M.o nq low I).1,(O.o nq _).1,b6.o low (Q - 1) (by have:=c8.o;have:=A.o;omega),(O.o nq _).2⟩
    case measure=>simp[intOf];omega
   ·obtain⟨low,j⟩:∃ low:Nat,R=(low:Int):=⟨R.toNat,by omega⟩;have A:=Hd j;have I:low<1000000000:=by omega
    clear j
    go_wp2
    rw[A.o]
    go_roundw
    case rel=>exact⟨i+1,Q,L.set i low,by omega,rfl,by go_num,by omega,by rw[List.length_set];exact a8.o,(M.o nq low I).2,(M.o nq low I).1,(O.o nq _).1,b6.o low Q (by have:=c8.o;have:=A.o;omega),(O.o nq _).2⟩
    case measure=>simp[intOf];omega
  ·obtain rfl:i=a.length:=by omega
   rw[Jn (by omega),Jn Of,Jn hlb,hV] at d;have hP:((val L:Nat):Int)<((1000000000 ^ a.length:Nat):Int):=by
    have:=Gu L E;rw[b3] at this;exact Int.ofNat_lt.2 this
   have e9:=IE _ _ c V d (Uu _) hP (Uu _) (Int.ofNat_lt.2 hVl);rw[e9,Int.mul_zero,Int.add_zero] at d;have d2:val L=V:=Int.ofNat.inj d;have HI:Hid (U1 w.heap.size wr (.slice (some ⟨w.heap.size+1,0,none⟩) a.length a.length) L):=by
    have h:=K.isL (B:=w.heap.size) (cap:=a.length) (Y1 _) E (by omega) (by unfold maxLen;omega);rw[b3] at h;exact h
   have HT:Hid (val (Oe L)=V/\(Oe L).length<=a.length/\isTrim (Oe L)):=⟨by rw[O3];exact d2,by have:=Ku L;omega,trimL_trim _⟩;have e6:=Hd hB;clear d K hB E hF hP d2 hV hVl
   go_wp2_with fail
   refine (E0 w.heap.size _ L _ HI.o).mono ?_;rintro e w5 ⟨v,rfl,hcut,rfl⟩;have HW:Hid (U1 w.heap.size w5 v (Oe L)):=hcut _ _ HI.o;obtain⟨pv,cv,hv,_⟩:=HW.o;subst hv;clear hcut
   go_wp2
   go_ret
   exact⟨_,_,rfl,HW.o,HT.o.2.2,HT.o.1,HT.o.2.1,e6.o⟩
theorem B4 (a b:List Nat)(ta:isTrim a)(ob:okL b)(h:val a<=val b):a.length<=b.length:=by
 by_cases ha:a=[]
 ·rw[ha];exact Jy _
 have d:=Xe a ta ha;have j:=Gu b ob;have h3:1000000000 ^ (a.length - 1)<1000000000 ^ b.length:=by omega
 have h4:=(Nat.pow_lt_pow_iff_right (show 1<1000000000 by decide)).1 h3;omega
theorem PJ (a:List Nat)(n:Nat)(h:a.length=n+1)(ta:isTrim a):1<=a.getD n 0:=by
 have d:a≠[]:=by rintro rfl;simp at h
 have:=ta d;rw[List.getLast_eq_getElem] at this;rw[Jk,Jf (by omega)];simp only[h,Z7] at this;simp only[Um];omega
theorem DR (a b c d:Int)(w:World):(Op.equalIn 10000 230 (.agg #[.int .i64 a,.int .i64 b]) (.agg #[.int .i64 c,.int .i64 d])).run prog w=.ok (a==c&&b==d) w:=by
 have u3:=underlying2;have a3:=Tryz.isAgg2;have z3:=Tryz.sizeOf2;rw[show (10000:Nat)=9999+1 from rfl,Op.equalIn];simp only[Sem.run_bind,run_underlying underlying230,Result.andThen_ok];simp only[Std.Legacy.Range.forIn_eq_forIn_range',Std.Legacy.Range.size,Nat.sub_zero,Z7,Nat.div_one,List.range'_succ,List.range'_zero,List.forIn_cons,List.forIn_nil]
 go_simp
 by_cases h:a=c<;>by_cases j:b=d<;>simp[h,j]
theorem RD (a b q r:Nat)(h:a=q*b+r):Nat.gcd b r=Nat.gcd a b:=by
 rw[h,Uz (q*b+r) b,Nat.gcd_rec b (q*b+r),Yy,Nat.mul_add_mod,Nat.gcd_rec b r]
theorem Gp {N:Nat}(w:World)(o:Obj)(h:N<=w.heap.size):Below N w (w.alloc o):=(Jh _ w).alloc h o
def QX (B n d:Nat)(w0:World)(k:Nat)(av bv:Value)(wr:World):Prop:=
 ∃ A L:List Nat,(U1 B wr av A/\U1 B wr bv L)/\(isTrim A/\isTrim L)/\(val L<=val A/\val L=k)/\Nat.gcd (val A) (val L)=d/\A.length<=n/\Up w0 wr
theorem D7 (B:Nat)(va vb:Value)(a b:List Nat)(n:Nat)(w:World)(hBw:B<=w.heap.size)(ha:U1 B w va a)(hb:U1 B w vb b)(ta:isTrim a)(tb:isTrim b)(hla:a.length<=n)(hlb:b.length<=n)(hn:n<=90000)(hNS:NS w) :
 Calls prog 203 #[va,vb] w fun e w'=>∃ v L,e=.returned v/\U1 B w' v L/\isTrim L/\val L=Nat.gcd (val a) (val b)/\Up w w':=by
 have HA:=Hd ha;have HB:=Hd hb;have l5:=Hd hNS;have HT:Hid (isTrim a/\isTrim b):=⟨ta,tb⟩;have e6:=Hd hBw;obtain⟨pa,ca,rfl,_,_,oa,_⟩:=ha;obtain⟨pb,cb,rfl,_,_,ob,_⟩:=hb;obtain⟨d,hd⟩:=O1 (Nat.gcd (val a) (val b));rw[hd];have HD:=Hd hd;obtain⟨c,hc⟩:=O1 (El a b);have HC:=Hd hc;have q5 : -1<=c/\c<=1:=by rw[<-hc];exact Qb a b
 have g7:Hid (if c<0 then val a<=val b else val b<=val a):=by
  unfold Hid
  rw[<-hc,Ga a b oa ob ta tb];unfold Bd
  split
  ·rw[if_pos (by decide)];omega
  split
  ·rw[if_neg (by decide)];omega
  rw[if_neg (by decide)];omega
 clear hd hc ta tb hNS hBw oa ob
 by_cases m8:c<0
 all_goals
  go_enter func203,ntmps203
  go_wp2_with fail
  refine (Ed B _ _ a b _ HA.o HB.o).mono ?_;rintro e w1 ⟨rfl,g9⟩;rw[HC.o];have Z:=Hd g9;clear g9
  go_wp2
  go_loopg [0,1] (min (val a) (val b)) (QX B n d w)
  case atStart=>
   have h:=g7.o
   first
    | (rw[if_pos m8] at h;rw[Zi h];exact⟨b,a,⟨HB.o.below Z.o,HA.o.below Z.o⟩,⟨HT.o.2,HT.o.1⟩,⟨h,rfl⟩,by rw[Uz];exact HD.o,hlb,Z.o⟩)
    | (rw[if_neg (by omega)] at h;rw[Nat.min_eq_right h];exact⟨a,b,⟨HA.o.below Z.o,HB.o.below Z.o⟩,⟨HT.o.1,HT.o.2⟩,⟨h,rfl⟩,HD.o,hla,Z.o⟩)
  case round=>
   obtain⟨A,L,⟨hA,hL⟩,⟨tA,tL⟩,⟨e9,hk⟩,hg,q3,hB⟩:=hrel;obtain⟨p1,c1,rfl,_,_,oA,_⟩:=id hA;obtain⟨p2,c2,rfl,_,_,oL,_⟩:=id hL;have b8:=Hd hA;have b5:=Hd hL;have E:Hid ((isTrim A/\isTrim L)/\(val L<=val A/\val L=gk)/\Nat.gcd (val A) (val L)=d/\(okL A/\okL L)/\L.length<=A.length):=⟨⟨tA,tL⟩,⟨e9,hk⟩,hg,⟨oA,oL⟩,B4 L A tL oA e9⟩;have G:=Hd hB;have d6:=Hd (l5.o.below hB);clear hA hL tA tL e9 hk hg hB oA oL
   by_cases h2:A.length<=2
   ·have HV:Hid (val A<1000000000000000000/\val L<1000000000000000000):=by
     have h1:=Gu A E.o.2.2.2.1.1;have h3:=Yu (show 0<1000000000 by decide) h2;have h4:=E.o.2.1.1;have h5:(1000000000:Nat) ^ 2=1000000000000000000:=by decide
     show val A<1000000000000000000/\val L<1000000000000000000
     omega
    go_wp2_with fail
    refine (C0 B _ A _ b8.o).mono ?_;rintro e w2 ⟨rfl,c8⟩;rw[Bu _ (by have:=HV.o.1;omega)];have O:=Hd c8;clear c8
    go_wp2_with fail
    refine (C0 B _ L _ (b5.o.below O.o)).mono ?_;rintro e w3 ⟨rfl,b6⟩;rw[Bu _ (by have:=HV.o.2;omega)];have j:=Hd (O.o.trans (b6.mono O.o.size));clear b6
    go_wp2_with fail
    refine (Fi (val A) (val L) _ (by have:=HV.o.1;omega) (by have:=HV.o.2;omega)).mono ?_;rintro e w4 ⟨rfl,g3⟩;rw[E.o.2.2.1];have I:=Hd (j.o.trans (g3.mono j.o.size));have g4:Hid (d<18446744073709551616):=by
     have h1:=E.o.2.2.1
     by_cases h0:val A=0
     ·rw[h0,Nat.gcd_zero_left] at h1;have:=HV.o.2
      show d<18446744073709551616
      omega
     ·have h3:=Nat.gcd_le_left (val L) (Yp h0);have:=HV.o.1
      show d<18446744073709551616
      omega
    clear g3
    go_wp2_with fail
    refine (Xi d _ g4.o).mono ?_;rintro e w5 ⟨v,t,rfl,hv,ht,h9,_,J⟩;have m6:=Hd (G.o.trans ((I.o.trans (J.mono I.o.size)).mono G.o.size));have n6:Hid (U1 B w5 v t):=hv.mono (by have:=G.o.size;have:=I.o.size;have:=e6.o;omega);have h7:Hid (isTrim t/\val t=d):=⟨ht,h9⟩;obtain⟨pv,cv,l7,_⟩:=hv;subst l7;clear ht h9 J
    go_wp2
    go_ret
    exact⟨_,t,rfl,n6.o,h7.o.1,h7.o.2,m6.o⟩
   ·by_cases h0:L.length=0
    ·have HG:Hid (val A=d):=by
      have h1:=E.o.2.2.1;rw[Jv h0] at h1
      show val A=d
      simpa[val] using h1
     go_wp2_with fail
     go_ret
     exact⟨_,A,rfl,b8.o,E.o.1.1,HG.o,G.o⟩
    ·obtain⟨m,hm⟩:∃ m,A.length=m+3:=⟨A.length - 3,by omega⟩;have HM:=Hd hm;have q9:m<=90000:=by omega
     have r3:((L.length:Int)==0)=false:=by rw[Jc];omega
     clear hm
     go_wp2_with fail
     refine (Do B _ _ A L m _ b8.o b5.o (by omega) HM.o (by have:=E.o.2.2.2.2;have:=HM.o;omega) (PJ A (m+2) HM.o E.o.1.1) E.o.2.1.1).mono ?_;rintro e w2 ⟨x0,y0,rfl,K,c8⟩;have e8:=Hd K;have O:=Hd c8;have HX:Hid (x0<1000000000000000000/\y0<=x0):=by
      obtain⟨_,_,_,_,_,_,_,h1,h2⟩:=K;exact⟨h1,h2⟩
     clear K c8
     go_wp2_with fail
     refine (P9 x0 y0 _ HX.o.1 HX.o.2 (d6.o.below O.o)).mono ?_;rintro e w3 ⟨Y,fB,fC,fD,rfl,j0,b6⟩;have m7:=Hd j0;have j:=Hd (O.o.trans (b6.mono O.o.size));obtain⟨n0,n1,n2,n3⟩:=d6.o.below j.o;have o5:=R0 n0;clear j0 b6
     by_cases e5:Y=1/\fB=0
     ·obtain⟨rfl,rfl⟩:=e5;have hq:∀ W,(Op.equalIn 10000 230 (.agg #[.int .i64 1,.int .i64 0]) (.agg #[.int .i64 1,.int .i64 0])).run prog W=.ok true W:=fun W=>DR 1 0 1 0 W
      go_wp2_with fail
      refine (Rd B _ _ A L _ (by have:=e6.o;have:=G.o.size;have:=j.o.size;simp;omega) (b8.o.below (j.o.trans (Gp _ _ j.o.size))) (b5.o.below (j.o.trans (Gp _ _ j.o.size))) (by omega) E.o.1.1 E.o.1.2 (fun h=>h0 (by rw[h];rfl))).mono ?_;rintro e w5 ⟨v,u,Q,U,rfl,⟨⟨_,hu⟩,⟨_,g5⟩,_,e1,g1⟩,J⟩;have c6:Up wr w5:=(j.o.trans (Gp _ _ j.o.size)).trans (J.mono (by have:=j.o.size;simp;omega));have f5:Hid (QX B n d w (val U) (.slice p2 L.length c2) u w5):=
       ⟨L,U,⟨b5.o.below c6,hu⟩,⟨E.o.1.2,g5⟩,⟨by omega,rfl⟩,by rw[<-E.o.2.2.1];exact RD _ _ _ _ e1,by have:=E.o.2.2.2.2;omega,G.o.trans (c6.mono G.o.size)⟩
      have l0:Hid (val U<gk):=by unfold Hid;have:=E.o.2.1.2;omega
      obtain⟨pu,cu,m5,_⟩:=hu;subst m5;clear g5 e1 g1 J c6
      go_wp2
      go_roundg (val U)
      case measure=>exact l0.o
      case rel=>exact f5.o
     ·have hq:∀ W,(Op.equalIn 10000 230 (.agg #[.int .i64 Y,.int .i64 fB]) (.agg #[.int .i64 1,.int .i64 0])).run prog W=.ok false W:=fun W=>by
       rw[DR]
       congr 1
       rw[Bool.and_eq_false_iff,Jc,Jc]
       by_cases h:Y=1
       ·exact .inr fun h'=>e5 ⟨h,h'⟩
       ·exact .inl h
      obtain⟨W4,d5⟩:=O1 (w3.alloc (.cells #[.int .i64 Y,.int .i64 fB,.int .i64 fC,.int .i64 fD] 232));have e7:Bx W4 w3.heap.size [.int .i64 Y,.int .i64 fB,.int .i64 fC,.int .i64 fD]:=by rw[<-d5];exact Ox w3 _ _
      have i7:Up wr W4:=by rw[<-d5];exact j.o.trans (Gp _ _ j.o.size)
      have m9:=Hd d5;have I:=Hd i7;have h6:Hid (∀ W,Up W4 W->W.cell? ⟨w3.heap.size,0,none⟩=some (.int .i64 Y)/\W.cell? ⟨w3.heap.size,1,none⟩=some (.int .i64 fB)/\W.cell? ⟨w3.heap.size,2,none⟩=some (.int .i64 fC)/\W.cell? ⟨w3.heap.size,3,none⟩=some (.int .i64 fD)):=fun W hW=>by
       have h:=e7.below e7.lt hW;exact⟨h.cell 0,h.cell 1,h.cell 2,h.cell 3⟩
      have d4:Hid (∀ W,Up W4 W->(U1 B W (.slice p1 A.length c1) A/\U1 B W (.slice p2 L.length c2) L)/\Up wr W):=fun W hW=>by
       have hh:=I.o.trans (hW.mono I.o.size);exact⟨⟨b8.o.below hh,b5.o.below hh⟩,hh⟩
      obtain⟨xf,yf,b9⟩:=m7.o;have b3:=Ba x0 y0 Y fB fC fD xf yf b9 HX.o.1 HX.o.2;obtain⟨SS,a',b',ea,eb,g8,j4,_,_⟩:=e8.o;obtain⟨a1,b1,f9,j1,i8,d8,l1⟩:=IX x0 y0 Y fB fC fD xf yf SS (val A) (val L) a' b' b9 e5 ea eb g8 j4;have n5:val A<1000000000 ^ A.length:=Gu A E.o.2.2.2.1.1;have M:Hid ((Y*(val A:Nat)+fB*(val L:Nat)=(a1:Nat)/\a1<1000000000 ^ A.length)/\(fC*(val A:Nat)+fD*(val L:Nat)=(b1:Nat)/\b1<1000000000 ^ A.length)/\Nat.gcd a1 b1=d/\b1<a1/\b1<gk):=by
       have h1:=E.o.2.1;exact⟨⟨f9,by omega⟩,⟨j1,by omega⟩,i8.trans E.o.2.2.1,d8,by omega⟩
      have HF:Hid (((-1000000000<Y/\Y<1000000000)/\(-1000000000<fB/\fB<1000000000))/\(-1000000000<fC/\fC<1000000000)/\(-1000000000<fD/\fD<1000000000)):=⟨⟨b3.1,b3.2.1⟩,b3.2.2.1,b3.2.2.2.1⟩;have V:Hid (L.length<=A.length/\A.length<=100000):=⟨E.o.2.2.2.2,by omega⟩;clear b9 b3 ea eb g8 j4 f9 j1 i8 d8 l1 n5 e7 i7 d5
      go_upto_region 10 with fail
      rw[m9.o];obtain⟨c0,s0,s5,c3⟩:=h6.o W4 (Jh _ _)
      go_region_with (first
       | (go_at_call_of 227 (Value.int IntKind.i64 Y)
          refine (Dq B _ _ A L Y fB a1 _ (d4.o _ (Jh _ W4).drew).1.1 (d4.o _ (Jh _ W4).drew).1.2 V.o.2 V.o.1 HF.o.1.1 HF.o.1.2 M.o.1.1 M.o.1.2).mono ?_;rintro e w5 ⟨v1,L1,rfl,j2,j5,d9,e2,J⟩;have a7:Hid (Up W4 w5):=(Jh _ W4).drew.trans J;have b4:Hid (U1 W4.heap.size w5 v1 L1/\isTrim L1/\val L1=a1/\L1.length<=A.length):=⟨j2,j5,d9,e2⟩;obtain⟨r9,o0,n9,r4⟩:=h6.o w5 a7.o;clear j2 j5 d9 e2 J)
       | (go_at_call_of 227 (Value.int IntKind.i64 fC)
          refine (Dq B _ _ A L fC fD b1 _ (d4.o _ a7.o).1.1 (d4.o _ a7.o).1.2 V.o.2 V.o.1 HF.o.2.1 HF.o.2.2 M.o.2.1.1 M.o.2.1.2).mono ?_;rintro e w6 ⟨v2,L2,rfl,i1,j6,d7,e0,g0⟩;have h8:=Hd g0;have a8:Hid (U1 w5.heap.size w6 v2 L2/\isTrim L2/\val L2=b1/\L2.length<=A.length):=⟨i1,j6,d7,e0⟩;clear i1 j6 d7 e0 g0))
      all_goals
       have f5:Hid (QX B n d w b1 v1 v2 w6):=by
        have s1:=e6.o;have s2:=G.o.size;have s3:=I.o.size;have s4:=a7.o.size;exact⟨L1,L2,⟨(b4.o.1.below h8.o).mono (by omega),a8.o.1.mono (by omega)⟩,⟨b4.o.2.1,a8.o.2.1⟩,⟨by rw[b4.o.2.2.1,a8.o.2.2.1];exact Uw M.o.2.2.2.1,a8.o.2.2.1⟩,by rw[b4.o.2.2.1,a8.o.2.2.1];exact M.o.2.2.1,by have:=b4.o.2.2.2;omega,
         G.o.trans ((I.o.trans ((a7.o.trans (h8.o.mono s4)).mono s3)).mono s2)⟩
       try simp only[Yz,Ys,Ym,Act.put,Ja,Jd,Je]
       go_wp2
       go_roundg b1
       case measure=>exact M.o.2.2.2.2
       case rel=>exact f5.o
def E8 (x y:Int):Int:=((Int.gcd x y:Nat):Int)
theorem Fj (n:Bool)(v:Nat):(sg n v).natAbs=v:=by cases n<;>simp[sg]
theorem DI (na nb:Bool)(a b:Nat):E8 (sg na a) (sg nb b)=((Nat.gcd a b:Nat):Int):=by
 unfold E8 Int.gcd;rw[Fj,Fj]
theorem RA (a b L:List Nat)(n:Nat)(tL:isTrim L)(oa:okL a)(ob:okL b)(hv:val L=Nat.gcd (val a) (val b))(ha:a.length<=n)(hb:b.length<=n):L.length<=n:=by
 by_cases d:val a=0
 ·rw[d,Nat.gcd_zero_left] at hv;have:=B4 L b tL ob (by omega);omega
 have h:=Nat.gcd_le_left (val b) (Yp d);have:=B4 L a tL oa (by omega);omega
theorem Px (B:Nat)(za zb:Value)(x y:Int)(n:Nat)(w:World)(hBw:B<=w.heap.size)(ha:Gt B w za x n)(hb:Gt B w zb y n)(hn:n<=90000)(hNS:NS w) :
 Calls prog 187 #[za,zb] w fun e w'=>∃ z,e=.returned z/\Gt B w' z (E8 x y) n/\Up w w':=by
 obtain⟨na,va,a,rfl,O,ta,rfl,b6⟩:=ha;obtain⟨nb,vb,b,rfl,M,tb,rfl,b3⟩:=hb;rw[DI];have d3:=Hd O;have d4:=Hd M;have d0:=Hd hNS;have c6:=Hd hBw;have V:Hid (isTrim a/\isTrim b):=⟨ta,tb⟩;obtain⟨pa,ca,rfl,_,_,oa,_⟩:=O;obtain⟨pb,cb,rfl,_,_,ob,_⟩:=M;have Y:Hid (okL a/\okL b):=⟨oa,ob⟩;clear ta tb hNS hBw oa ob;obtain⟨W0,E⟩:=O1 (((w.alloc (.cells #[.bool (U0 na a),.slice pa a.length ca] 162)).alloc (.cells #[.bool (U0 nb b),.slice pb b.length cb] 162)).alloc (.cells #[.bool false,.slice none 0 0] 162));have d2:=Hd E;have d:Hid (Up w W0):=by
  unfold Hid
  rw[<-E];exact Om (Om (Oy _ _) _) _
 have I:Bx W0 (w.heap.size+1+1) [.bool false,.slice none 0 0]:=by
  rw[<-E];have h:=Ox ((w.alloc (.cells #[.bool (U0 na a),.slice pa a.length ca] 162)).alloc (.cells #[.bool (U0 nb b),.slice pb b.length cb] 162)) [.bool false,.slice none 0 0] 162;rw[Ji,Ji] at h;exact h
 have b5:Hid (∀ W,Up W0 W->Bx W (w.heap.size+1+1) [.bool false,.slice none 0 0]):=fun W hW=>I.below I.lt hW;clear E I
 go_enter func187,ntmps187
 go_wp2_with fail
 rw[d2.o];refine (D7 B _ _ a b n _ (by have:=c6.o;have:=d.o.size;omega) (d3.o.below d.o) (d4.o.below d.o) V.o.1 V.o.2 b6 b3 hn (d0.o.below d.o)).mono ?_;rintro e w1 ⟨v,L,rfl,hv,tL,j,b4⟩;have HV:=Hd hv;have a8:=Hd b4;have HL:Hid (isTrim L/\val L=Nat.gcd (val a) (val b)/\L.length<=n):=⟨tL,j,RA a b L n tL Y.o.1 Y.o.2 j b6 b3⟩;obtain⟨pv,cv,d5,_⟩:=hv;subst d5;clear tL j b4
 go_wp2_with fail
 refine (Kc B false _ L _ HV.o).mono ?_;rintro e A ⟨v',rfl,hcut,K⟩;have U:Hid (U1 B A v' L):=by
  have h:=hcut _ _ (HV.o.below K);rw[Qa L HL.o.1] at h;exact h
 have J:=Hd (a8.o.trans (K.mono a8.o.size));have e1:U0 false (Oe L)=false:=by unfold U0;rfl
 rw[e1];have hb:=b5.o A J.o;obtain⟨k0,k1⟩:=hb.k2;obtain⟨r0,r1⟩:=hb.f2;obtain⟨G,c2,c8,_⟩:=U.o;subst c8;clear hcut K hb e1
 go_wp2
 have Z:=b5.o A J.o;have a7:Ej A (w.heap.size+1+1):=fun i x=>by
  rw[Z.cell i]
  match i with
  | 0=>simp
  | 1=>simp
  | i+2=>simp
 have kk:Kq (w.heap.size+1+1) (w.heap.size+1+1) A ((A.setCell ⟨w.heap.size+1+1,0,none⟩ (.bool false)).setCell ⟨w.heap.size+1+1,1,none⟩ (.slice G L.length c2)):=
  Kq.setCell (Kq.setCell (Kq.refl _ _ A) ⟨w.heap.size+1+1,0,none⟩ (.bool false) (Or.inl rfl)) ⟨w.heap.size+1+1,1,none⟩ (.slice G L.length c2) (Or.inl rfl)
 have d1:=U.o.keeps a7 a7 kk;have hZ:Bx ((A.setCell ⟨w.heap.size+1+1,0,none⟩ (.bool false)).setCell ⟨w.heap.size+1+1,1,none⟩ (.slice G L.length c2)) (w.heap.size+1+1) [.bool false,.slice G L.length c2]:=(Z.set 0 _).set 1 _;have hE:Up w ((A.setCell ⟨w.heap.size+1+1,0,none⟩ (.bool false)).setCell ⟨w.heap.size+1+1,1,none⟩ (.slice G L.length c2)):=
  ((d.o.trans (J.o.mono d.o.size)).setCell (p:=⟨w.heap.size+1+1,0,none⟩) (by show _<=w.heap.size+1+1;omega) _).setCell (p:=⟨w.heap.size+1+1,1,none⟩) (by show _<=w.heap.size+1+1;omega) _
 generalize (A.setCell ⟨w.heap.size+1+1,0,none⟩ (.bool false)).setCell ⟨w.heap.size+1+1,1,none⟩ (.slice G L.length c2)=WE at *;obtain⟨m0,m1⟩:=hZ.k2;refine Jj (v:=.agg #[.bool false,.slice G L.length c2]) ?_ rfl ⟨_,rfl,⟨false,_,L,by unfold U0;rfl,d1,HL.o.1,by rw[HL.o.2.1];rfl,HL.o.2.2⟩,hE⟩;simp[results,results187,go_sem,m0,m1]
end Go.Proofs.YtipgjenolpofpaaGreatDoor.Q
