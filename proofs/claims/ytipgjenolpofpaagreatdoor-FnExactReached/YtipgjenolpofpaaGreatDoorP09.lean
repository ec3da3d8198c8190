import Derived.IntWalk
import Derived.Deep.DeepCutAuto
import Derived.Test.YtipgjenolpofpaaGreatDoorP08
import Derived.Deep.LoopGhost
import Derived.Laws.StructEq
import Derived.Laws.Tables
set_option maxRecDepth 100000
set_option maxHeartbeats 4000000
namespace Go.Proofs.YtipgjenolpofpaaGreatDoor.Q
open ChangeShapes WideShapes ChangeAt RowKit Proofs.Tryz
def Bx (W:World)(g:Nat)(l:List Value):Prop:=∃ ty,W.heap[g]? = some (.cells l.toArray ty (0,0))
theorem Bx.lt {W:World}{g:Nat}{l:List Value}(h:Bx W g l):g<W.heap.size:=by
 obtain⟨t,h⟩:=h;exact (J1.1 h).1
theorem Bx.cell {W:World}{g:Nat}{l:List Value}(h:Bx W g l)(i:Nat):W.cell? ⟨g,i,none⟩=l[i]? := by
 obtain⟨t,h⟩:=h;simp[World.cell?,h]
theorem Bx.frozen {W:World}{g:Nat}{l:List Value}(h:Bx W g l)(i:Nat):W.frozen? ⟨g,i,none⟩=false:=by
 obtain⟨t,h⟩:=h;simp[World.frozen?,h]
theorem Bx.set {W:World}{g:Nat}{l:List Value}(h:Bx W g l)(i:Nat)(v:Value):Bx (W.setCell ⟨g,i,none⟩ v) g (l.set i v):=by
 obtain⟨t,h⟩:=h;refine⟨t,?_⟩;obtain⟨d,j⟩:=J1.1 h
 show (W.heap.modify g _)[g]? = _
 rw[Vk (by rw[Z1];exact d),Vl,j];simp
theorem Bx.k2 {W:World}{g:Nat}{v0 v1:Value}{r:List Value}(h:Bx W g (v0::v1::r)):W.cell? ⟨g,0,none⟩=some v0/\W.cell? ⟨g,1,none⟩=some v1:=⟨h.cell 0,h.cell 1⟩
theorem Bx.k3 {W:World}{g:Nat}{v0 v1 v2:Value}{r:List Value}(h:Bx W g (v0::v1::v2::r)):W.cell? ⟨g,0,none⟩=some v0/\W.cell? ⟨g,1,none⟩=some v1/\W.cell? ⟨g,2,none⟩=some v2:=⟨h.cell 0,h.cell 1,h.cell 2⟩
theorem Bx.k4 {W:World}{g:Nat}{v0 v1 v2 v3:Value}{r:List Value}(h:Bx W g (v0::v1::v2::v3::r)):W.cell? ⟨g,0,none⟩=some v0/\W.cell? ⟨g,1,none⟩=some v1/\W.cell? ⟨g,2,none⟩=some v2/\W.cell? ⟨g,3,none⟩=some v3:=⟨h.cell 0,h.cell 1,h.cell 2,h.cell 3⟩
theorem Bx.k5 {W:World}{g:Nat}{v0 v1 v2 v3 v4:Value}{r:List Value}(h:Bx W g (v0::v1::v2::v3::v4::r)):W.cell? ⟨g,0,none⟩=some v0/\W.cell? ⟨g,1,none⟩=some v1/\W.cell? ⟨g,2,none⟩=some v2/\W.cell? ⟨g,3,none⟩=some v3/\W.cell? ⟨g,4,none⟩=some v4:=⟨h.cell 0,h.cell 1,h.cell 2,h.cell 3,h.cell 4⟩
theorem Bx.k6 {W:World}{g:Nat}{v0 v1 v2 v3 v4 v5:Value}{r:List Value}(h:Bx W g (v0::v1::v2::v3::v4::v5::r)):W.cell? ⟨g,0,none⟩=some v0/\W.cell? ⟨g,1,none⟩=some v1/\W.cell? ⟨g,2,none⟩=some v2/\W.cell? ⟨g,3,none⟩=some v3/\W.cell? ⟨g,4,none⟩=some v4/\W.cell? ⟨g,5,none⟩=some v5:=⟨h.cell 0,h.cell 1,h.cell 2,h.cell 3,h.cell 4,h.cell 5⟩
theorem Bx.f2 {W:World}{g:Nat}{r:List Value}(h:Bx W g r):W.frozen? ⟨g,0,none⟩=false/\W.frozen? ⟨g,1,none⟩=false:=⟨h.frozen 0,h.frozen 1⟩
theorem Bx.f3 {W:World}{g:Nat}{r:List Value}(h:Bx W g r):W.frozen? ⟨g,0,none⟩=false/\W.frozen? ⟨g,1,none⟩=false/\W.frozen? ⟨g,2,none⟩=false:=⟨h.frozen 0,h.frozen 1,h.frozen 2⟩
theorem Bx.f4 {W:World}{g:Nat}{r:List Value}(h:Bx W g r):W.frozen? ⟨g,0,none⟩=false/\W.frozen? ⟨g,1,none⟩=false/\W.frozen? ⟨g,2,none⟩=false/\W.frozen? ⟨g,3,none⟩=false:=⟨h.frozen 0,h.frozen 1,h.frozen 2,h.frozen 3⟩
theorem Bx.f6 {W:World}{g:Nat}{r:List Value}(h:Bx W g r):W.frozen? ⟨g,0,none⟩=false/\W.frozen? ⟨g,1,none⟩=false/\W.frozen? ⟨g,2,none⟩=false/\W.frozen? ⟨g,3,none⟩=false/\W.frozen? ⟨g,4,none⟩=false/\W.frozen? ⟨g,5,none⟩=false:=⟨h.frozen 0,h.frozen 1,h.frozen 2,h.frozen 3,h.frozen 4,h.frozen 5⟩
theorem Bx.f7 {W:World}{g:Nat}{r:List Value}(h:Bx W g r):W.frozen? ⟨g,0,none⟩=false/\W.frozen? ⟨g,1,none⟩=false/\W.frozen? ⟨g,2,none⟩=false/\W.frozen? ⟨g,3,none⟩=false/\W.frozen? ⟨g,4,none⟩=false/\W.frozen? ⟨g,5,none⟩=false/\W.frozen? ⟨g,6,none⟩=false:=⟨h.frozen 0,h.frozen 1,h.frozen 2,h.frozen 3,h.frozen 4,h.frozen 5,h.frozen 6⟩
theorem Bx.other {W:World}{g:Nat}{l:List Value}(h:Bx W g l)(p:Addr)(hp:p.block≠g)(v:Value):Bx (W.setCell p v) g l:=by
 obtain⟨t,h⟩:=h;exact⟨t,(Jq W p v g (fun e=>hp e.symm)).trans h⟩
theorem Bx.bl {W W':World}{g N:Nat}{l:List Value}(h:Bx W g l)(hN:g<N)(hb:Below N W W'):Bx W' g l:=by
 obtain⟨t,h⟩:=h;exact⟨t,(hb.block g hN).trans h⟩
theorem Bx.alloc {W:World}{g:Nat}{l:List Value}(h:Bx W g l)(o:Obj):Bx (W.alloc o) g l:=h.bl h.lt (Oy W o)
theorem Bx.drew {W:World}{g:Nat}{l:List Value}(h:Bx W g l):Bx W.drew g l:=h.bl h.lt (Jh _ W).drew
theorem Oi (W:World)(l:List Value)(ty:TypeId):Bx (W.alloc (.cells l.toArray ty)) W.heap.size l:=⟨ty,Array.getElem?_push_size⟩
theorem YW (B:Nat)(v:Value)(l:List Nat)(i:Nat)(w:World)(h:U1 B w v l)(_hi:i<=1000000) :
 Calls prog 243 #[v,.int .i64 (i:Nat)] w fun e w'=>e=.returned (.int .i64 (l.getD i 0:Nat))/\w'=w:=by
 obtain⟨p,c,rfl,_⟩:=id h;obtain⟨_,_,_,A,hc⟩:=h.cells
 by_cases hl:i<l.length
 ·obtain⟨b,G,rfl,hb,d⟩:=hc i hl;have E:=O9 l A i hl;obtain⟨x,j⟩:=O1 (l.getD i 0);rw[j] at d E ⊢;clear j hc h
  go_in
  go_wp2
  go_ret
  exact⟨rfl,rfl⟩
 have e:l.getD i 0=0:=by rw[Jk,Yj (by omega)];rfl
 rw[e];clear e hc h
 go_in
 go_wp2
 go_ret
 exact⟨rfl,rfl⟩
theorem FD (n:Nat)(M:Nat)(h:n*n<M*M):n<M:=by
 rcases Nat.lt_or_ge n M with d|d
 ·exact d
 exact absurd h (Nat.not_lt.2 (V8 d d))
structure LSt (x0 y0:Nat)(s:Bool)(p q r t x y:Nat):Prop where
 ex:x0=t*x+q*y
 ey:y0=r*x+p*y
 det:if s then p*t=q*r+1 else q*r=p*t+1
 low:if s then q<=x/\r<=y else p<=x/\t<=y
 bp:p<1000000000
 bq:q<1000000000
 br:r<1000000000
 bt:t<1000000000
 le:y<=x
 go:(s=true/\p=1/\q=0/\r=0/\t=1)∨(1<=r/\(if s then y+t+q<x else y+r+p<x))
theorem XN (x0 y0:Nat)(h:y0<=x0):LSt x0 y0 true 1 0 0 1 x0 y0:=
 ⟨by omega,by omega,by simp,by simp,by omega,by omega,by omega,by omega,h,.inl ⟨rfl,rfl,rfl,rfl,rfl⟩⟩
theorem Qp (m y x0:Nat)(h:m*y<=x0)(h1:m<=y)(hx:x0<1000000000000000000):m<1000000000:=by
 have d:m*m<=m*y:=J8 m h1;exact FD m 1000000000 (by omega)
theorem XG (x0 y0 p q r t x y k:Nat)(h:LSt x0 y0 true p q r t x y)(hx0:x0<1000000000000000000)(hle:y0<=x0)(hy:r<y)
 (k1:k*(y - r)<=x+p) (k2:x+p<k*(y - r)+(y - r)) (k3:k*(y+t)<=x - q) (k4:x - q<k*(y+t)+(y+t)) :
 k*y<=x/\LSt x0 y0 false r t (p+k*r) (q+k*t) y (x - k*y):=by
 obtain⟨ex,ey,det,low,bp,bq,br,bt,le,go⟩:=h;simp only[if_true] at det low go;obtain⟨Y,I⟩:=low;have J:k*(y - r)+k*r=k*y:=by rw[<-Yf,Nat.sub_add_cancel I]
 have K:k*(y+t)=k*y+k*t:=Yf _ _ _;obtain⟨z,A⟩:∃ z,x=k*y+z:=⟨x - k*y,by omega⟩;have j:x - k*y=z:=by omega
 have f1:x0=(q+k*t)*y+t*z:=by rw[ex,A];grind
 have f2:y0=(p+k*r)*y+r*z:=by rw[ey,A];grind
 have M:q+k*t<=z:=by omega
 have O:z+(p+k*r)+r<y:=by omega
 have d:1<=p+k*r:=by
  rcases go with⟨_,V,_⟩|⟨G,U⟩
  ·omega
  have:1<=k:=by
   rcases Zp k with rfl|E
   ·simp at k4;omega
   exact E
  have:=V8 this G;omega
 rw[j];refine⟨by omega,f1,f2,?_,?_,br,bt,?_,?_,by omega,.inr ⟨d,?_⟩⟩
 ·simp only[Y7,if_false];grind
 ·simp only[Y7,if_false];omega
 ·exact Qp (p+k*r) y y0 (by omega) (by omega) (by omega)
 ·exact Qp (q+k*t) y x0 (by omega) (by omega) (by omega)
 simp only[Y7,if_false];omega
theorem EB (x0 y0 p q r t x y k:Nat)(h:LSt x0 y0 false p q r t x y)(hx0:x0<1000000000000000000)(hle:y0<=x0)(hy:t<y)
 (k1:k*(y+r)<=x - p) (k2:x - p<k*(y+r)+(y+r)) (k3:k*(y - t)<=x+q) (k4:x+q<k*(y - t)+(y - t)) :
 k*y<=x/\LSt x0 y0 true r t (p+k*r) (q+k*t) y (x - k*y):=by
 obtain⟨ex,ey,det,low,bp,bq,br,bt,le,go⟩:=h;simp only[Y7,if_false] at det low go;obtain⟨V,I⟩:=low;have J:k*(y - t)+k*t=k*y:=by rw[<-Yf,Nat.sub_add_cancel I]
 have K:k*(y+r)=k*y+k*r:=Yf _ _ _;obtain⟨z,A⟩:∃ z,x=k*y+z:=⟨x - k*y,by omega⟩;have j:x - k*y=z:=by omega
 have f1:x0=(q+k*t)*y+t*z:=by rw[ex,A];grind
 have f2:y0=(p+k*r)*y+r*z:=by rw[ey,A];grind
 have M:p+k*r<=z:=by omega
 have O:z+(q+k*t)+t<y:=by omega
 have d:1<=p+k*r:=by
  rcases go with⟨h,_⟩|⟨G,U⟩
  ·cases h
  have:1<=k:=by
   rcases Zp k with rfl|E
   ·simp at k2;omega
   exact E
  have:=V8 this G;omega
 rw[j];refine⟨by omega,f1,f2,?_,?_,br,bt,?_,?_,by omega,.inr ⟨d,?_⟩⟩
 ·simp only[if_true];grind
 ·simp only[if_true];omega
 ·exact Qp (p+k*r) y y0 (by omega) (by omega) (by omega)
 ·exact Qp (q+k*t) y x0 (by omega) (by omega) (by omega)
 simp only[if_true];omega
def T8 (s:Bool)(n:Nat):Int:=if s then (n:Int) else -(n:Int)
def GW (A B C D:Int)(a b:Nat):Prop:=∃ a1 b1:Nat,A*a+B*b=a1/\C*a+D*b=b1/\Nat.gcd a1 b1=Nat.gcd a b/\b1<a1/\a1<=b
theorem IT (a b a1 b1 p q r t:Nat)(h1:a=t*a1+q*b1)(h2:b=r*a1+p*b1)(h3:Nat.gcd a b∣a1)(h4:Nat.gcd a b∣b1):Nat.gcd a1 b1=Nat.gcd a b:=by
 apply Nat.dvd_antisymm
 ·apply Nat.dvd_gcd
  ·rw[h1];exact Nat.dvd_add (Yw (Nat.gcd_dvd_left _ _) _) (Yw (Nat.gcd_dvd_right _ _) _)
  rw[h2];exact Nat.dvd_add (Yw (Nat.gcd_dvd_left _ _) _) (Yw (Nat.gcd_dvd_right _ _) _)
 exact Nat.dvd_gcd h3 h4
theorem OD (x0 y0 p q r t x y S a b a' b':Nat)(h:LSt x0 y0 true p q r t x y)(hg:1<=r/\y+t+q<x)(ha:a=x0*S+a')(hb:b=y0*S+b')(ha':a'<S)(hb':b'<S) :
 GW p (-q) (-r) t a b:=by
 obtain⟨ex,ey,det,low,bp,bq,br,bt,le,go⟩:=h;simp only[if_true] at det low;have I:p*x0=q*y0+x:=by rw[ex,ey];grind
 have J:t*y0=r*x0+y:=by rw[ex,ey];grind
 have U:p*a=q*(y0*S)+x*S+p*a':=by rw[ha,Yf,<-Yt,I];grind
 have V:q*b=q*(y0*S)+q*b':=by rw[hb];grind
 have Y:t*b=r*(x0*S)+y*S+t*b':=by rw[hb,Yf,<-Yt,J];grind
 have Z:r*a=r*(x0*S)+r*a':=by rw[ha];grind
 have m1:q*b'<=q*S:=J8 _ (by omega);have m2:r*a'<=r*S:=J8 _ (by omega);have m3:t*b'<=t*S:=J8 _ (by omega);have m4:(y+t+q+1)*S<=x*S:=Yh _ (by omega);have m5:r*S<=y*S:=Yh _ low.2;have m6:(y+t+q+1)*S=y*S+t*S+q*S+S:=by grind
 obtain⟨a1,d⟩:∃ a1,p*a=q*b+a1:=⟨x*S+p*a' - q*b',by omega⟩;obtain⟨b1,j⟩:∃ b1,t*b=r*a+b1:=⟨y*S+t*b' - r*a',by omega⟩;have K:(a:Int)=t*a1+q*b1:=by
  have G:(p:Int)*a=q*b+a1:=by exact_mod_cast d
  have z2:(t:Int)*b=r*a+b1:=by exact_mod_cast j
  have z3:(p:Int)*t=q*r+1:=by exact_mod_cast det
  grind
 have i2:(b:Int)=r*a1+p*b1:=by
  have G:(p:Int)*a=q*b+a1:=by exact_mod_cast d
  have z2:(t:Int)*b=r*a+b1:=by exact_mod_cast j
  have z3:(p:Int)*t=q*r+1:=by exact_mod_cast det
  grind
 have M:a=t*a1+q*b1:=by exact_mod_cast K
 have O:b=r*a1+p*b1:=by exact_mod_cast i2
 have A:=Nat.gcd_dvd_left a b;have E:=Nat.gcd_dvd_right a b;refine⟨a1,b1,?_,?_,IT a b a1 b1 p q r t M O ?_ ?_,by omega,?_⟩
 ·have G:(p:Int)*a=q*b+a1:=by exact_mod_cast d
  grind
 ·have z2:(t:Int)*b=r*a+b1:=by exact_mod_cast j
  grind
 ·exact (Nat.dvd_add_right (Yw E q)).1 (d ▸ Yw A p)
 ·exact (Nat.dvd_add_right (Yw A r)).1 (j ▸ Yw E t)
 have:=Yh a1 hg.1;omega
theorem St (x0 y0 p q r t x y S a b a' b':Nat)(h:LSt x0 y0 false p q r t x y)(hg:1<=r/\y+r+p<x)(ha:a=x0*S+a')(hb:b=y0*S+b')(ha':a'<S)(hb':b'<S) :
 GW (-p) q r (-t) a b:=by
 obtain⟨ex,ey,det,low,bp,bq,br,bt,le,go⟩:=h;simp only[Y7,if_false] at det low;have I:q*y0=p*x0+x:=by rw[ex,ey];grind
 have J:r*x0=t*y0+y:=by rw[ex,ey];grind
 have U:q*b=p*(x0*S)+x*S+q*b':=by rw[hb,Yf,<-Yt,I];grind
 have V:p*a=p*(x0*S)+p*a':=by rw[ha];grind
 have Y:r*a=t*(y0*S)+y*S+r*a':=by rw[ha,Yf,<-Yt,J];grind
 have Z:t*b=t*(y0*S)+t*b':=by rw[hb];grind
 have m1:p*a'<=p*S:=J8 _ (by omega);have m2:t*b'<=t*S:=J8 _ (by omega);have m3:r*a'<=r*S:=J8 _ (by omega);have m4:(y+r+p+1)*S<=x*S:=Yh _ (by omega);have m5:t*S<=y*S:=Yh _ low.2;have m6:(y+r+p+1)*S=y*S+r*S+p*S+S:=by grind
 obtain⟨a1,d⟩:∃ a1,q*b=p*a+a1:=⟨x*S+q*b' - p*a',by omega⟩;obtain⟨b1,j⟩:∃ b1,r*a=t*b+b1:=⟨y*S+r*a' - t*b',by omega⟩;have K:(a:Int)=t*a1+q*b1:=by
  have G:(q:Int)*b=p*a+a1:=by exact_mod_cast d
  have z2:(r:Int)*a=t*b+b1:=by exact_mod_cast j
  have z3:(q:Int)*r=p*t+1:=by exact_mod_cast det
  grind
 have i2:(b:Int)=r*a1+p*b1:=by
  have G:(q:Int)*b=p*a+a1:=by exact_mod_cast d
  have z2:(r:Int)*a=t*b+b1:=by exact_mod_cast j
  have z3:(q:Int)*r=p*t+1:=by exact_mod_cast det
  grind
 have M:a=t*a1+q*b1:=by exact_mod_cast K
 have O:b=r*a1+p*b1:=by exact_mod_cast i2
 have A:=Nat.gcd_dvd_left a b;have E:=Nat.gcd_dvd_right a b;refine⟨a1,b1,?_,?_,IT a b a1 b1 p q r t M O ?_ ?_,by omega,?_⟩
 ·have G:(q:Int)*b=p*a+a1:=by exact_mod_cast d
  grind
 ·have z2:(r:Int)*a=t*b+b1:=by exact_mod_cast j
  grind
 ·exact (Nat.dvd_add_right (Yw A p)).1 (d ▸ Yw E q)
 ·exact (Nat.dvd_add_right (Yw E t)).1 (j ▸ Yw A r)
 have:=Yh a1 hg.1;omega
def DJ (x0 y0:Nat)(A B C D x y:Int):Prop:=∃ (s:Bool) (p q r t X Y:Nat),A=T8 s p/\B = -T8 s q/\C = -T8 s r/\D=T8 s t/\x=X/\y=Y/\LSt x0 y0 s p q r t X Y
theorem QL (x0 y0:Nat)(h:y0<=x0):DJ x0 y0 1 0 0 1 x0 y0:=⟨true,1,0,0,1,x0,y0,rfl,rfl,rfl,rfl,rfl,rfl,XN x0 y0 h⟩
theorem CX (x0 y0:Nat)(s:Bool)(p q r t x y:Nat)(h:LSt x0 y0 s p q r t x y)(hle:y0<=x0):x<=x0:=by
 obtain⟨ex,ey,det,-⟩:=h
 cases s
 ·simp only[Y7,if_false] at det;have:r≠0:=by rintro rfl;simp at det
  have:=Yh x (show 1<=r by omega);omega
 simp only[if_true] at det;have:t≠0:=by rintro rfl;simp at det
 have:=Yh x (show 1<=t by omega);omega
theorem Ax (x0 y0:Nat)(A B C D x y:Int)(h:DJ x0 y0 A B C D x y)(hx0:x0<1000000000000000000)(hle:y0<=x0) :
 (-1000000000<A/\A<1000000000)/\(-1000000000<B/\B<1000000000)/\(-1000000000<C/\C<1000000000)/\(-1000000000<D/\D<1000000000) /\
 (0<=x/\x<1000000000000000000)/\(0<=y/\y<1000000000000000000)/\(0<=x+A/\0<=x+B)/\0<=y+C/\0<=y+D:=by
 obtain⟨s,p,q,r,t,X,Y,rfl,rfl,rfl,rfl,rfl,rfl,h⟩:=h;have d:=CX _ _ _ _ _ _ _ _ _ h hle;obtain⟨ex,ey,det,low,bp,bq,br,bt,le,go⟩:=h
 cases s<;>simp only[T8,Y7,if_false,if_true] at*<;> omega
theorem Ra (a b k:Nat)(hb:0<b)(h:(a:Int) / (b:Int)=(k:Int)):k*b<=a/\a<k*b+b:=by
 have d:a / b=k:=by exact_mod_cast h
 subst d;have:=Uc a b;have:=Zx a hb;rw[Yy];omega
theorem QB (x0 y0:Nat)(A B C D x y:Int)(h:DJ x0 y0 A B C D x y)(hx0:x0<1000000000000000000)(hle:y0<=x0)(h1:0<y+C)(h2:0<y+D)(k:Int)
 (hk1:(x+A) / (y+C)=k) (hk2:(x+B) / (y+D)=k):DJ x0 y0 C D (A - k*C) (B - k*D) y (x - k*y)/\0<=k/\(x - k*y)+(A - k*C)<y+C:=by
 obtain⟨b1,b2,U,V,Z,b6,O,b8⟩:=Ax x0 y0 A B C D x y h hx0 hle;have j:0<=k:=by rw[<-hk1];exact Ur O.1 (by omega)
 have G:(x - k*y)+(A - k*C)<y+C:=by
  have e:=Int.emod_add_mul_ediv (x+A) (y+C);have l:=Int.emod_lt_of_pos (x+A) h1;rw[hk1] at e;have e2:(y+C)*k=k*y+k*C:=by grind
  omega
 refine⟨?_,j,G⟩;obtain⟨K,rfl⟩:=Zn j;obtain⟨s,p,q,r,t,X,Y,rfl,rfl,rfl,rfl,rfl,rfl,h⟩:=h;have low:=h.low
 cases s
 ·simp only[T8,Y7,if_false] at *;have J:((X - p:Nat):Int) / ((Y+r:Nat):Int)=K:=by rw[<-hk1];congr 1<;>omega
  have M:((X+q:Nat):Int) / ((Y - t:Nat):Int)=K:=by rw[<-hk2];congr 1<;>omega
  obtain⟨I,k2⟩:=Ra _ _ _ (by omega) J;obtain⟨k3,k4⟩:=Ra _ _ _ (by omega) M;obtain⟨d,E⟩:=EB x0 y0 p q r t X Y K h hx0 hle (by omega) I k2 k3 k4;refine⟨true,r,t,p+K*r,q+K*t,Y,X - K*Y,?_,?_,?_,?_,rfl,?_,E⟩
  ·simp[T8]
  ·simp[T8]
  ·simp only[T8,if_true];push_cast;grind
  ·simp only[T8,if_true];push_cast;grind
  rw[Int.ofNat_sub d];push_cast;rfl
 simp only[T8,if_true] at *;have J:((X+p:Nat):Int) / ((Y - r:Nat):Int)=K:=by rw[<-hk1];congr 1<;>omega
 have M:((X - q:Nat):Int) / ((Y+t:Nat):Int)=K:=by rw[<-hk2];congr 1<;>omega
 obtain⟨I,k2⟩:=Ra _ _ _ (by omega) J;obtain⟨k3,k4⟩:=Ra _ _ _ (by omega) M;obtain⟨d,E⟩:=XG x0 y0 p q r t X Y K h hx0 hle (by omega) I k2 k3 k4;refine⟨false,r,t,p+K*r,q+K*t,Y,X - K*Y,?_,?_,?_,?_,rfl,?_,E⟩
 ·simp[T8]
 ·simp[T8]
 ·simp only[T8,Y7,if_false];push_cast;grind
 ·simp only[T8,Y7,if_false];push_cast;grind
 rw[Int.ofNat_sub d];push_cast;rfl
theorem QM (x0 y0:Nat)(A B C D x y:Int)(S a b a' b':Nat)(h:DJ x0 y0 A B C D x y)(hno:¬ (A=1/\B=0))(ha:a=x0*S+a')(hb:b=y0*S+b')(ha':a'<S)(hb':b'<S):GW A B C D a b:=by
 obtain⟨s,p,q,r,t,X,Y,rfl,rfl,rfl,rfl,rfl,rfl,h⟩:=h;have go:=h.go
 cases s
 ·simp only[T8,Y7,if_false] at *
  rcases go with⟨h,_⟩|d
  ·cases h
  have:=St x0 y0 p q r t X Y S a b a' b' h d ha hb ha' hb'
  simpa using this
 simp only[T8,if_true] at *
 rcases go with⟨_,rfl,rfl,_⟩|d
 ·exact absurd ⟨rfl,rfl⟩ hno
 exact OD x0 y0 p q r t X Y S a b a' b' h d ha hb ha' hb'
theorem RI (l:List Nat)(n:Nat)(hl:l.length<=n+3):val l=val (l.take n)+1000000000 ^ n*(l.getD n 0+1000000000*l.getD (n+1) 0+1000000000*1000000000*l.getD (n+2) 0):=by
 have e:val (l.take (n+3))=val l:=by rw[Jn hl]
 rw[<-e,Ok,Ok,Ok,J5 1000000000 (n+1),J5];generalize l.getD n 0=d;generalize l.getD (n+1) 0=h;generalize l.getD (n+2) 0=j;generalize val (l.take n)=V;generalize 1000000000 ^ n=P;clear e hl;generalize 1000000000=M
 grind
def Hh (l:List Nat)(n ten K:Nat):Nat:=(l.getD (n+2) 0*1000000000+l.getD (n+1) 0)*ten+l.getD n 0 / K
theorem Fk (l:List Nat)(ok:okL l)(n:Nat)(hl:l.length<=n+3)(ten K:Nat)(hK:ten*K=1000000000) :
 ∃ a',val l=Hh l n ten K*(1000000000 ^ n*K)+a'/\a'<1000000000 ^ n*K:=by
 have j:0<K:=by rcases Zp K with rfl|h<;>omega
 have e:=RI l n hl;have O:val (l.take n)<1000000000 ^ n:=by
  have A:=Gu _ (Fx l ok n);have E:(l.take n).length<=n:=by rw[J4];omega
  exact Jz A (Yx (by omega) E)
 have I:=Uc (l.getD n 0) K;have J:=Zx (l.getD n 0) j;unfold Hh;generalize l.getD n 0=G at *;generalize l.getD (n+1) 0=U at *;generalize l.getD (n+2) 0=Y at *;generalize val (l.take n)=V at *;generalize 1000000000 ^ n=P at *;generalize G / K=d at *;generalize G % K=m at *;refine⟨V+P*m,?_,?_⟩
 ·rw[e,<-I];generalize 1000000000=M at *;subst hK
  grind
 have A:P*(m+1)<=P*K:=J8 _ J;have E:P*(m+1)=P*m+P:=by grind
 omega
theorem PD (l:List Nat)(ok:okL l)(n ten K:Nat)(hK:ten*K=1000000000)(h2:l.getD (n+2) 0<K):Hh l n ten K<1000000000000000000:=by
 have I:0<K:=by omega
 have E:∀ i,l.getD i 0<1000000000:=fun i=>by
  rw[Jk]
  rcases Nat.lt_or_ge i l.length with h|h
  ·rw[Jf h];exact ok _ (Jw h)
  rw[Yj h];decide
 have U:=E (n+1);have G:=E n;have V:l.getD n 0 / K<ten:=Nat.div_lt_of_lt_mul (by rw[Yy,hK];exact G);unfold Hh;generalize l.getD n 0 / K=d at *;generalize l.getD (n+1) 0=j at *;generalize l.getD (n+2) 0=A at *;have J:(A*1000000000+j)*ten+ten=(A*1000000000+j+1)*ten:=by rw[Zl _ 1,Zq]
 have M:(A*1000000000+j+1)*ten<=(K*1000000000)*ten:=Yh _ (by omega);have O:(K*1000000000)*ten=1000000000000000000:=by rw[Nat.mul_right_comm,Yy K,hK]
 omega
theorem Bp (x y S a b a' b':Nat)(ha:a=x*S+a')(hb:b=y*S+b')(ha':a'<S)(hle:b<=a):y<=x:=by
 rcases Nat.lt_or_ge x y with h|h
 ·have:=Yh S h;rw[Nat.succ_mul] at this;omega
 exact h
open RowKit Shelf Proofs.Tryz
attribute [local go_sem] Oper.semAt_some
def PF (n:Nat):Int:=IntKind.u64.wrap (n:Int)
theorem Wi (n:Int):IntKind.u64.wrap n=n % 18446744073709551616:=rfl
theorem XH (q y:Nat):IntKind.u64.wrap (IntKind.u64.wrap (PF q*1000000000)+y)=PF (q*1000000000+y):=by
 unfold PF;simp only[Wi];omega
theorem XI:PF 0=0:=rfl
theorem Mb (n:Nat)(h:n<18446744073709551616):PF n=(n:Int):=by
 unfold PF;rw[Wi];omega
def GE:List Lb->Int:=List.foldl (fun s x=>IntKind.u64.wrap (IntKind.u64.wrap (s*1000000000)+(x.1.2:Nat))) 0
theorem M5 (pre:List Lb)(x:Lb):GE (pre++[x])=IntKind.u64.wrap (IntKind.u64.wrap (GE pre*1000000000)+(x.1.2:Nat)):=by simp[GE]
theorem GN (l:List Nat)(h:okL l)(k:Nat)(hk:k<=l.length):GE (Qz (bk l h) k)=PF (Ek l (l.length - k)):=by
 induction k with
 | zero=>simp[Qz,GE,Dz,XI]
 | succ k ih=>
   rw[Do,M5,ih (by omega)];have d:l.length - k=l.length - (k+1)+1:=by omega
   have j:(bk l h k).1.2=l.getD (l.length - (k+1)) 0:=by simp only[bk];rw[show l.length - 1 - k=l.length - (k+1) by omega]
   rw[j,d,XH,Ik l (l.length - (k+1)) (by omega)]
theorem GB (F:Fence)(n:Nat)(hf:F.fn 229)(hf1:F.fn 209)(hf2:F.fn 236)(hro:F.round=none)(hn:3<=n)(B:Nat)(v:Value)(l:List Nat)(w:World)(hI:U1 B w v l) :
 CallsIn F n prog 229 #[v] w fun e W'=>e=.returned (.int .u64 (PF (val l)))/\Up w W':=by
 have U:1<=n:=by omega
 obtain⟨a,cap,rfl,hl,j,E,hr⟩:=hI;refine callsIn_of_wp_marks func229 rfl hf ?_ hro;simp only[ntmps229,Ui,Yo,Zh,Nat.reduceAdd,Nat.reduceSub,Vp,Vr,Ug,V0,Zw,Yu]
 gi_wp2_with (gi_at_call 209;refine (UY F (n - 1) hf1 hro _ _ _ _).mono ?_;rintro e w' ⟨rfl,rfl⟩)
 have O:=Boxed.new w 169 (.int .u64 0);have M:=Boxed.new (w.alloc (.cells #[.int .u64 0] 169)) 121 (.slice a l.length cap);rw[Ji] at M;have d:Up w ((w.alloc (.cells #[.int .u64 0] 169)).alloc (.cells #[.slice a l.length cap] 121)):=((Jh _ w).alloc Of _).alloc (by simp) _;have J:l=[]∨∃ b off,a=some ⟨b,off,none⟩/\b<w.heap.size/\∀ i,i<l.length->((w.alloc (.cells #[.int .u64 0] 169)).alloc (.cells #[.slice a l.length cap] 121)).cell? ⟨b,off+i,none⟩=some (.int .u32 (l.getD i 0:Nat)):=by
  rcases hr with h|⟨b,off,e,_,hb,hc⟩
  ·exact .inl h
  exact .inr ⟨b,off,e,hb,fun i hi=>(d.cell (p:=⟨b,off+i,none⟩) hb).trans (hc i hi)⟩
 refine wpIn_rangeFunc_ownG hro U (gf:=236) (lb:=#[.pointer (some ⟨w.heap.size+1,0,none⟩)]) rfl hf2 (enters_of func236 (by kernel_rfl) rfl)
  (Cp F (n - 1) hf2 hro (by omega) (w.heap.size+1) w.heap.size _ l E _ (by simp) (by simp;omega) M.cell
    ⟨a,cap,rfl,hl,j,J⟩)
  DW (FY (by simp;omega) (by simp)) (Jh _ _) (fun _=>rfl)
  (fun pre W=>(W.cell? ⟨w.heap.size,0,none⟩=some (.int .u64 (GE pre))/\W.frozen? ⟨w.heap.size,0,none⟩=false)/\Up w W)
  (fun _ _ _=>False)
  (OwnFrom.and (Own.from (fun s A B row hs hg hr=>⟨cell_kept hs.1 hg hr,(frozen_kept hs.1 hg hr).trans hs.2⟩) _) (ownFrom_below Of (by simp;omega)))
  (fun _ _ _ _ _ hs _ _=>hs)
  ⟨⟨(O.alloc _).cell,(O.alloc _).frozen⟩,d⟩
  (fun x=>{ tmps:=#[.slice a l.length cap,undef,.int .u64 0,.pointer (some ⟨w.heap.size,0,none⟩),undef,.int .u32 (x.1.2:Nat),.slice a l.length cap,.func (.func 236) #[] #[.pointer (some ⟨w.heap.size+1,0,none⟩)],.int .i64 x.1.1,.int .u32 (x.1.2:Nat),undef,undef,undef,undef,undef,undef],defers:=[] }) ?assign ?body ?done ?stop
 case assign=>
  intro Y x W K G
  gi_wp2
  exact G
 case body=>
  rintro Y pre x W ⟨⟨hc,hf⟩,I⟩ _;have Z:=x.2
  gi_wp2
  exact⟨(KeepsOthers.setCell _ _ _).from _,⟨(Jh w.heap.size W).sc,Vf (Jq W ⟨w.heap.size,0,none⟩ _ (w.heap.size+1) (Nat.succ_ne_self _))⟩,
   ⟨by rw[M5];exact World.cell?_setCell_same' _ _ _ (by rw[hc];rfl),by rw[World.frozen?_setCell];exact hf⟩,I.sc⟩
 case done=>
  rintro D ys W V rfl ⟨⟨hc,_⟩,I⟩ G;rw[GN l E l.length Of,Nat.sub_self] at hc
  gi_wp2
  refine⟨by simp,.inl ⟨_,_,rfl,run_takeDeferred G,?_⟩⟩;exact⟨_,results_tmp rfl _ _ _,rfl,I.trans (belowK_b (w:=w) Of W D _ _ (by simp at V;omega) G rfl rfl)⟩
 rintro D c pre W _ _ h _;exact h.elim
theorem Le (B:Nat)(v:Value)(l:List Nat)(w:World)(h:U1 B w v l) :
 Calls prog 229 #[v] w fun e w'=>e=.returned (.int .u64 (PF (val l)))/\Up w w':=
 (callsIn_wide (n:=3)).1 (GB Fence.wide 3 trivial trivial trivial rfl Of B v l w h)
theorem Kb (x:Int)(h1 : -9223372036854775808<=x)(h2:x<9223372036854775808):IntKind.i64.wrap x=x:=by
 have e:IntKind.i64.wrap x=if x % 18446744073709551616≥9223372036854775808 then x % 18446744073709551616 - 18446744073709551616 else x % 18446744073709551616:=by
  unfold IntKind.wrap;simp[IntKind.bits,IntKind.signed]
 rw[e]
 split<;>omega
theorem I1 (t:List Nat)(h:okL t)(i:Nat):t.getD i 0<1000000000:=by
 by_cases d:i<t.length
 ·exact O9 t h i d
 rw[Jk,Yj (by omega)];decide
theorem Qr (B:Nat)(v:Value)(l:List Nat)(i:Int)(k:Nat)(X:Int)(w:World)(h:U1 B w v l)(hi:i=(k:Int))(hk:k<=1000000)(hX:((l.getD k 0:Nat):Int)=X) :
 Calls prog 243 #[v,.int .i64 i] w fun e w'=>e=.returned (.int .i64 X)/\w'=w:=by
 subst hi hX;exact YW B v l k w h hk
theorem D6 (B:Nat)(v:Value)(l:List Nat)(n ten K:Nat)(w:World)(h:U1 B w v l)(hn:n<=100000)(hK:ten*K=1000000000)(hlt:Hh l n ten K<1000000000000000000) :
 Calls prog 242 #[v,.int .i64 (n+1:Nat),.int .i64 (ten:Nat)] w fun e w'=>e=.returned (.int .i64 (Hh l n ten K:Nat))/\Up w w':=by
 have Y:=Hd h;obtain⟨p,c,rfl,_,_,A,_⟩:=h;obtain⟨d,h0⟩:∃ X:Int,((l.getD n 0:Nat):Int)=X:=⟨_,rfl⟩;obtain⟨O,h1⟩:∃ X:Int,((l.getD (n+1) 0:Nat):Int)=X:=⟨_,rfl⟩;obtain⟨U,h2⟩:∃ X:Int,((l.getD (n+2) 0:Nat):Int)=X:=⟨_,rfl⟩;have H0:=Hd h0;have H1:=Hd h1;have H2:=Hd h2;have b0:=I1 l A n;have b1:=I1 l A (n+1);have b2:=I1 l A (n+2);obtain⟨T,V⟩:∃ T:Int,(ten:Int)=T:=⟨_,rfl⟩;obtain⟨M,hM⟩:∃ M:Int,(K:Int)=M:=⟨_,rfl⟩;have G:T*M=1000000000:=by rw[<-V,<-hM,<-Z5,hK];rfl
 have b7:1<=T:=by
  have:ten≠0:=by rintro rfl;omega
  omega
 have b6:1<=M:=by
  have:K≠0:=by rintro rfl;omega
  omega
 obtain⟨W,hW⟩:∃ W:Int,U*1000000000+O=W:=⟨_,rfl⟩;have j:((Hh l n ten K:Nat):Int)=W*T+d / M:=by
  unfold Hh;rw[Us,Z5,Us,Z5,Int.natCast_ediv,h0,h1,h2,V,hM,<-hW];rfl
 have I:0<=d:=by omega
 have d8:0<=d / M:=Ur I (by omega);have b9:0<=W:=by omega
 have d0:0<=W*T:=Int.mul_nonneg b9 (by omega);have d7:W*T<1000000000000000000:=by omega
 have d9:d / M<1000000000000000000:=by omega
 have Z:=Hd j;have c0:0<=d/\d<1000000000:=by omega
 have c1:0<=O/\O<1000000000:=by omega
 have c2:0<=U/\U<1000000000:=by omega
 have HW:=Hd hW;have HN:=Hd hn;have d5:M<=1000000000:=by
  have:=V5 b7 (show 0<=M by omega);omega
 have d6:T<=1000000000:=by
  have:=V9 b6 (show 0<=T by omega);omega
 have J:Int.tdiv 1000000000 T=M:=by
  rw[Vj (by decide),<-G];exact Int.mul_ediv_cancel_left _ (by omega)
 have E:Int.tdiv d M=d / M:=Vj I;rw[V];clear h0 h1 h2 V hM hK hlt j hW b0 b1 b2 A G
 go_in
 go_wp2_with fail
 refine (Qr B _ l _ (n+2) U _ Y.o (by push_cast;omega) (by have:=HN.o;omega) H2.o).mono ?_;rintro e w' ⟨rfl,c6⟩;subst c6
 go_wp2_with fail
 refine (Qr B _ l _ (n+1) O _ Y.o (by omega) (by have:=HN.o;omega) H1.o).mono ?_;rintro e w2 ⟨rfl,c8⟩;subst c8
 go_upto_region 2 with fail
 rw[HW.o];have q1:IntKind.i64.wrap (W*T)=W*T:=Kb _ (by omega) (by omega);have q2:IntKind.i64.wrap (n:Int)=(n:Int):=Kb _ (by omega) (by omega);have q3:(T==0)=false:=by rw[Jc];omega
 have q4:(M==0)=false:=by rw[Jc];omega
 have q5:IntKind.i64.wrap (Int.tdiv 1000000000 T)=M:=by rw[J];exact Kb _ (by omega) (by omega)
 have q6:IntKind.i64.wrap (d.tdiv M)=d / M:=by rw[E];exact Kb _ (by omega) (by omega)
 have q7:IntKind.i64.wrap (W*T+d / M)=W*T+d / M:=Kb _ (by omega) (by omega)
 go_quiet (first|(go_at_call 243;refine Calls.quiet_of_same (Qr B _ l _ n d _ Y.o rfl (by have:=HN.o;omega) H0.o)))
 go_wp2
 go_ret
 exact⟨K5 Z.o.symm,below_drewN (Jh _ _) _⟩
theorem X4 (B:Nat)(v:Value)(l:List Nat)(n ten K:Nat)(i T:Int)(w:World)(h:U1 B w v l)(hi:i=((n+1:Nat):Int))(hT:T=((ten:Nat):Int))(hn:n<=100000)(hK:ten*K=1000000000)(hlt:Hh l n ten K<1000000000000000000) :
 Calls prog 242 #[v,.int .i64 i,.int .i64 T] w fun e w'=>e=.returned (.int .i64 (Hh l n ten K:Nat))/\Up w w':=by
 subst hi hT;exact D6 B v l n ten K w h hn hK hlt
def Wc (a b x y:Nat):Prop:=∃ S a' b',a=x*S+a'/\b=y*S+b'/\a'<S/\b'<S/\x<1000000000000000000/\y<=x
theorem PC (a b:List Nat)(n ten K:Nat)(oa:okL a)(ob:okL b)(hla:a.length=n+3)(hlb:b.length<=n+3)(hK:ten*K=1000000000)(ht:a.getD (n+2) 0<K)(hle:val b<=val a) :
 Wc (val a) (val b) (Hh a n ten K) (Hh b n ten K):=by
 obtain⟨j,ha,d⟩:=Fk a oa n (by omega) ten K hK;obtain⟨A,hb,h⟩:=Fk b ob n hlb ten K hK;exact⟨_,j,A,ha,hb,d,h,PD a oa n ten K hK ht,Bp _ _ _ _ _ j A ha hb d hle⟩
theorem Ce (k:Nat)(hk:k<=8):10 ^ k*10 ^ (9 - k)=1000000000:=by
 rw[<-Nat.pow_add,show k+(9 - k)=9 by omega]
theorem DY (k:Nat)(hk:k<=8):1<=10 ^ k/\10 ^ k<=100000000:=⟨Nat.pow_pos (by decide),by
 have:=Yx (show 0<10 by decide) hk
 exact this⟩
theorem CS (X k:Nat)(hk:k<=8)(h:X*10 ^ k<1000000000):X<10 ^ (9 - k):=by
 apply Classical.byContradiction;intro hn;have d:10 ^ (9 - k)*10 ^ k<=X*10 ^ k:=Yh _ (by omega);rw[Yy,Ce k hk] at d;omega
theorem Pb (B:Nat)(va vb:Value)(a b:List Nat)(n:Nat)(w:World)(ha:U1 B w va a)(hb:U1 B w vb b)(hn:n<=100000)(hla:a.length=n+3)(hlb:b.length<=n+3)(hta:1<=a.getD (n+2) 0)(hle:val b<=val a) :
 Calls prog 226 #[va,vb] w fun e w'=>∃ x y:Nat,e=.returned (.tuple #[.int .i64 (x:Nat),.int .i64 (y:Nat)])/\Wc (val a) (val b) x y/\Up w w':=by
 have HA:Hid (∀ W,Up w W->U1 B W va a):=fun W hW=>ha.bl hW;have HB:Hid (∀ W,Up w W->U1 B W vb b):=fun W hW=>hb.bl hW;obtain⟨pa,ca,rfl,_⟩:=id ha;obtain⟨pb,cb,rfl,_⟩:=id hb;obtain⟨_,_,_,A,a7⟩:=ha.cells;obtain⟨_,_,_,Z,_⟩:=hb.cells;obtain⟨ba,oa,rfl,d1,d⟩:=a7 (n+2) (by omega);have O:Hid (∀ k,k<=8->a.getD (n+2) 0*10 ^ k<1000000000->Wc (val a) (val b) (Hh a n (10 ^ k) (10 ^ (9 - k))) (Hh b n (10 ^ k) (10 ^ (9 - k)))):=fun k hk h=>
  PC a b n _ _ A Z hla hlb (Ce k hk) (CS _ k hk h) hle
 have d2:=I1 a A (n+2);obtain⟨x,hx⟩:=O1 (a.getD (n+2) 0);rw[hx] at d d2 hta O;have HC:Hid (∀ W,Up w W->W.cell? ⟨ba,oa+(n+2),none⟩=some (.int .u32 (x:Nat))):=fun W hW=>(hW.cell (p:=⟨ba,oa+(n+2),none⟩) d1).trans d;have b7:=Hd hla;rw[hla];clear a7 d ha hb hle hla hx hlb
 go_in
 go_wp2
 go_loopw [7] (fun tv wr=>∃ k:Nat,k<=8/\tv=.int .i64 ((10 ^ k:Nat):Int)/\x*10 ^ k<1000000000/\Up w wr) (fun tv _=>(1000000000 - intOf tv).toNat)
 case atStart=>exact⟨0,by omega,rfl,by omega,Jh _ _⟩
 obtain⟨k,hk,rfl,a8,hB⟩:=hrel;have d:=HC.o _ hB;have hp:=DY k hk;have b8:Hid (x*10 ^ k*10<1000000000->k+1<=8):=fun h=>by
  apply Classical.byContradiction;intro hn;obtain rfl:k=8:=by omega
  simp only[Nat.reducePow] at h;omega
 have b9:Hid (((10 ^ k:Nat):Int)*10=((10 ^ (k+1):Nat):Int)):=by
  unfold Hid
  rw[J5,Z5];rfl
 have c6:Hid (x*10 ^ (k+1)=x*10 ^ k*10):=by unfold Hid;rw[J5,Yt]
 have j:=Hd hB;have M:=Hd (O.o k hk a8);have K:=Hd hk;obtain⟨T,hT⟩:∃ T:Int,((10 ^ k:Nat):Int)=T:=⟨_,rfl⟩;have HT:=Hd hT;have t1:1<=T:=by omega
 have t2:T<=100000000:=by omega
 obtain⟨X,hX⟩:∃ X:Int,(x:Int)=X:=⟨_,rfl⟩;have HX:=Hd hX;have V:((x*10 ^ k:Nat):Int)=X*T:=by rw[<-hX,<-hT];exact Z5 _ _
 have U:=Hd V;have x1:0<=X*T:=by omega
 have x2:X*T<1000000000:=by omega
 have x3:0<=X/\X<1000000000:=by omega
 rw[hX] at d;rw[hT];clear hT hX V hp a8 hB
 by_cases hc:X*T*10<1000000000
 ·have hd:decide (X*T*10<1000000000)=true:=Jb hc
  go_wp2
  go_roundw
  case rel=>
   have e1:k+1<=8:=b8.o (by have:=U.o;omega);refine⟨k+1,e1,?_,?_,j.o⟩
   ·rw[<-b9.o,HT.o]
   rw[c6.o];have:=U.o;omega
  simp[intOf];omega
 have hd:decide (X*T*10<1000000000)=false:=Jg hc;have HD:Hid (Hh a n (10 ^ k) (10 ^ (9 - k))<1000000000000000000/\Hh b n (10 ^ k) (10 ^ (9 - k))<1000000000000000000):=by
  obtain⟨_,_,_,_,_,_,_,h1,h2⟩:=M.o;exact⟨h1,by omega⟩
 have I:=Hd (HA.o _ j.o);have b6:=Hd (HB.o _ j.o);rw[b7.o] at I
 go_wp2_with fail
 refine (X4 B _ a n (10 ^ k) (10 ^ (9 - k)) _ _ _ I.o (by omega) HT.o.symm hn (Ce k K.o) HD.o.1).mono ?_;rintro e w2 ⟨rfl,E⟩;have J:=Hd (b6.o.bl E);have G:=Hd (j.o.trans (E.mono j.o.size));clear E
 go_wp2_with fail
 refine (X4 B _ b n (10 ^ k) (10 ^ (9 - k)) _ _ _ J.o (by omega) HT.o.symm hn (Ce k K.o) HD.o.2).mono ?_;rintro e w3 ⟨rfl,Y⟩;have b5:=Hd (G.o.trans (Y.mono G.o.size));clear Y
 go_wp2
 go_ret2
 exact⟨_,_,rfl,M.o,b5.o⟩
def NS (w:World):Prop:=
 w.cell? ⟨2,0,none⟩=some (.int .i64 1)/\w.cell? ⟨2,1,none⟩=some (.int .i64 0)/\w.cell? ⟨2,2,none⟩=some (.int .i64 0)/\w.cell? ⟨2,3,none⟩=some (.int .i64 1)
theorem NS.bl {w w':World}(h:NS w)(hb:Up w w'):NS w':=by
 have d:=Rd h.1;unfold NS at *;simp only[fun o=>hb.cell (p:=⟨2,o,none⟩) d];exact h
def LG (x0 y0:Nat)(A B C D:Int):Prop:=∃ x y,DJ x0 y0 A B C D x y
theorem Pm (x0 y0:Nat)(w:World)(hx0:x0<1000000000000000000)(hle:y0<=x0)(h:NS w) :
 Calls prog 225 #[.int .i64 (x0:Nat),.int .i64 (y0:Nat)] w fun e w'=>∃ A B C D:Int,e=.returned (.agg #[.int .i64 A,.int .i64 B,.int .i64 C,.int .i64 D])/\LG x0 y0 A B C D/\Up w w':=by
 have j2:=Rd h.1;obtain⟨n0,n1,n2,n3⟩:=h
 go_in
 go_wp2
 have b4:Up w ((w.alloc (.cells #[.int .i64 0,.int .i64 0,.int .i64 0,.int .i64 0] 232)).alloc (.cells #[.int .i64 1,.int .i64 0,.int .i64 0,.int .i64 1] 232)):=((Jh _ w).alloc Of _).alloc (by simp) _;have b9:Bx ((w.alloc (.cells #[.int .i64 0,.int .i64 0,.int .i64 0,.int .i64 0] 232)).alloc (.cells #[.int .i64 1,.int .i64 0,.int .i64 0,.int .i64 1] 232)) w.heap.size [.int .i64 0,.int .i64 0,.int .i64 0,.int .i64 0]:=(Oi w _ _).alloc _;have c6:Bx ((w.alloc (.cells #[.int .i64 0,.int .i64 0,.int .i64 0,.int .i64 0] 232)).alloc (.cells #[.int .i64 1,.int .i64 0,.int .i64 0,.int .i64 1] 232)) (w.heap.size+1) [.int .i64 1,.int .i64 0,.int .i64 0,.int .i64 1]:=by
  have:=Oi (w.alloc (.cells #[.int .i64 0,.int .i64 0,.int .i64 0,.int .i64 0] 232)) [.int .i64 1,.int .i64 0,.int .i64 0,.int .i64 1] 232;rw[Ji] at this;exact this
 generalize (w.alloc (.cells #[.int .i64 0,.int .i64 0,.int .i64 0,.int .i64 0] 232)).alloc (.cells #[.int .i64 1,.int .i64 0,.int .i64 0,.int .i64 1] 232)=W0 at *
 go_loopw [0,1] (fun xv yv wr=>∃ A B C D x y:Int,xv=.int .i64 x/\yv=.int .i64 y/\DJ x0 y0 A B C D x y/\Bx wr w.heap.size [.int .i64 0,.int .i64 0,.int .i64 0,.int .i64 0]/\Bx wr (w.heap.size+1) [.int .i64 A,.int .i64 B,.int .i64 C,.int .i64 D]/\Up w wr)
  (fun _ yv wr=>(intOf yv+intOf ((wr.cell? ⟨w.heap.size+1,2,none⟩).getD (.int .i64 0))).toNat)
 case atStart=>exact⟨1,0,0,1,x0,y0,rfl,rfl,QL x0 y0 hle,b9,c6,b4⟩
 clear b9 c6 b4 n0 n1 n2 n3;obtain⟨A,B,C,D,x,y,rfl,rfl,hS,hX,I,hB⟩:=hrel;obtain⟨⟨a1,a2⟩,⟨b1,b2⟩,⟨c1,c2⟩,⟨d1,d2⟩,⟨x1,x2⟩,⟨y1,y2⟩,⟨p1,p2⟩,p3,p4⟩:=Ax x0 y0 A B C D x y hS hx0 hle;obtain⟨e0,e1,e2,e3⟩:=I.k4;have HS:=Hd hS;have d:=Hd hX;have U:=Hd I;have E:=Hd hB;clear hS hX I hB;have w1:IntKind.i64.wrap (y+C)=y+C:=Kb _ (by omega) (by omega);have w2:IntKind.i64.wrap (y+D)=y+D:=Kb _ (by omega) (by omega);have w3:IntKind.i64.wrap (x+A)=x+A:=Kb _ (by omega) (by omega);have w4:IntKind.i64.wrap (x+B)=x+B:=Kb _ (by omega) (by omega)
 by_cases hg:0<y+C/\0<y+D
 ·obtain⟨g1,g2⟩:=hg;obtain⟨k,hk⟩:=O1 ((x+A) / (y+C));obtain⟨m,hm⟩:=O1 ((x+B) / (y+D));have w5:IntKind.i64.wrap ((x+A).tdiv (y+C))=k:=by
   have h0:0<=k:=by rw[<-hk];exact Ur p1 (by omega)
   have h1:k<=x+A:=by rw[<-hk];exact Int.ediv_le_self _ p1
   rw[Vj p1,hk];exact Kb _ (by omega) (by omega)
  have w6:IntKind.i64.wrap ((x+B).tdiv (y+D))=m:=by
   have h0:0<=m:=by rw[<-hm];exact Ur p2 (by omega)
   have h1:m<=x+B:=by rw[<-hm];exact Int.ediv_le_self _ p2
   rw[Vj p2,hm];exact Kb _ (by omega) (by omega)
  have z1:(y+C==0)=false:=by rw[Jc];omega
  have z2:(y+D==0)=false:=by rw[Jc];omega
  by_cases d3:k=m
  ·subst d3;obtain⟨G,j1,j⟩:=QB x0 y0 A B C D x y HS.o hx0 hle g1 g2 k hk hm;obtain⟨C',V⟩:=O1 (A - k*C);obtain⟨D',b5⟩:=O1 (B - k*D);obtain⟨y',a7⟩:=O1 (x - k*y);rw[V,b5,a7] at G;rw[V,a7] at j;obtain⟨_,_,⟨h8,h9⟩,⟨i1,i6⟩,_,⟨k9,l0⟩,_⟩:=Ax x0 y0 _ _ _ _ _ _ G hx0 hle;have w7:IntKind.i64.wrap (k*C)=k*C:=Kb _ (by omega) (by omega);have w8:IntKind.i64.wrap (k*D)=k*D:=Kb _ (by omega) (by omega);have w9:IntKind.i64.wrap (A - k*C)=C':=by rw[V];exact Kb _ (by omega) (by omega)
   have j9:IntKind.i64.wrap (B - k*D)=D':=by rw[b5];exact Kb _ (by omega) (by omega)
   have k7:IntKind.i64.wrap (k*y)=k*y:=Kb _ (by omega) (by omega);have k8:IntKind.i64.wrap (x - k*y)=y':=by rw[a7];exact Kb _ (by omega) (by omega)
   have e7:=Hd G;have e5:=Hd j;clear G j hk hm
   go_wp2
   have hN:=U.o.lt;obtain⟨N,Y⟩:=O1 wr.heap.size;have Z:=Oi wr [.int .i64 0,.int .i64 0] 230;have d5:=U.o.alloc (.cells #[.int .i64 0,.int .i64 0] 230);have d6:=d.o.alloc (.cells #[.int .i64 0,.int .i64 0] 230);have d7:=E.o.alloc E.o.size (.cells #[.int .i64 0,.int .i64 0] 230);rw[Y] at Z hN;rw[Y];have J:Bx (wr.alloc (.cells #[.int .i64 0,.int .i64 0] 230)) N [.int .i64 0,.int .i64 0]:=Z;have e6:=Hd e2;clear Z Y e0 e1 e2 e3;generalize wr.alloc (.cells #[.int .i64 0,.int .i64 0] 230)=W1 at *;clear d U E
   go_loopw [48] (fun iv wr=>∃ i u v:Int,iv=.int .i64 i/\((i=0/\u=0/\v=0)∨(i=1/\u=C'/\v=0)∨(i=2/\u=C'/\v=D'))/\Bx wr N [.int .i64 u,.int .i64 v]/\Bx wr (w.heap.size+1) [.int .i64 A,.int .i64 B,.int .i64 C,.int .i64 D]/\Bx wr w.heap.size [.int .i64 0,.int .i64 0,.int .i64 0,.int .i64 0]/\Up w wr)
    (fun iv _=>(2 - intOf iv).toNat)
   case atStart=>exact⟨0,0,0,rfl,.inl ⟨rfl,rfl,rfl⟩,J,d5,d6,d7⟩
   clear J d5 d6 d7;obtain⟨i,u,v,rfl,c8,hn,I,hX,hB⟩:=hrel;obtain⟨e0,e1,e2,e3⟩:=I.k4;obtain⟨f0,f1⟩:=hn.k2;obtain⟨r0,r1⟩:=hn.f2;obtain⟨t0,t1,t2,t3⟩:=I.f4;have j3:=hn.lt;have j4:=I.lt;have HN:=Hd hn;have d:=Hd hX;have U:=Hd I;have E:=Hd hB;clear hn hX I hB
   rcases c8 with⟨rfl,rfl,rfl⟩|⟨rfl,rfl,rfl⟩|⟨rfl,rfl,rfl⟩
   ·go_wp2
    go_region
    go_wp2
    go_roundw
    case rel=>exact⟨1,_,_,by go_num,.inr (.inl ⟨rfl,rfl,rfl⟩),(HN.o.set 0 _).drew,(U.o.other _ (by show N≠_;omega) _).drew,(d.o.other _ (by show N≠_;omega) _).drew,(E.o.setCell (p:=⟨N,0,none⟩) (by show _<=N;omega) _).drew⟩
    simp[intOf]
   ·go_wp2
    go_region
    go_wp2
    go_roundw
    case rel=>exact⟨2,_,_,by go_num,.inr (.inr ⟨rfl,rfl,rfl⟩),(HN.o.set 1 _).drew,(U.o.other _ (by show N≠_;omega) _).drew,(d.o.other _ (by show N≠_;omega) _).drew,(E.o.setCell (p:=⟨N,1,none⟩) (by show _<=N;omega) _).drew⟩
    simp[intOf]
   go_wp2
   go_region
   go_wp2
   have a8:Hid (Bx (((((wr.setCell ⟨w.heap.size+1,0,none⟩ (.int .i64 C)).setCell ⟨w.heap.size+1,1,none⟩ (.int .i64 D)).setCell ⟨w.heap.size+1,2,none⟩ (.int .i64 u)).setCell ⟨w.heap.size+1,3,none⟩ (.int .i64 v)).drew) (w.heap.size+1) [.int .i64 C,.int .i64 D,.int .i64 u,.int .i64 v]):=
    ((((U.o.set 0 _).set 1 _).set 2 _).set 3 _).drew
   have e8:Hid (Bx (((((wr.setCell ⟨w.heap.size+1,0,none⟩ (.int .i64 C)).setCell ⟨w.heap.size+1,1,none⟩ (.int .i64 D)).setCell ⟨w.heap.size+1,2,none⟩ (.int .i64 u)).setCell ⟨w.heap.size+1,3,none⟩ (.int .i64 v)).drew) w.heap.size [.int .i64 0,.int .i64 0,.int .i64 0,.int .i64 0]):=
    ((((d.o.other ⟨w.heap.size+1,0,none⟩ (by simp) _).other ⟨w.heap.size+1,1,none⟩ (by simp) _).other ⟨w.heap.size+1,2,none⟩ (by simp) _).other ⟨w.heap.size+1,3,none⟩ (by simp) _).drew
   have e4:Hid (Up w (((((wr.setCell ⟨w.heap.size+1,0,none⟩ (.int .i64 C)).setCell ⟨w.heap.size+1,1,none⟩ (.int .i64 D)).setCell ⟨w.heap.size+1,2,none⟩ (.int .i64 u)).setCell ⟨w.heap.size+1,3,none⟩ (.int .i64 v)).drew)):=
    ((((E.o.setCell (p:=⟨w.heap.size+1,0,none⟩) (Y2 _) _).setCell (p:=⟨w.heap.size+1,1,none⟩) (Y2 _) _).setCell (p:=⟨w.heap.size+1,2,none⟩) (Y2 _) _).setCell (p:=⟨w.heap.size+1,3,none⟩) (Y2 _) _).drew
   go_roundw
   case rel=>exact⟨C,D,u,v,y,y',rfl,rfl,e7.o,e8.o,a8.o,e4.o⟩
   have K:=a8.o.cell 2;simp only[Jo,Jr] at K;rw[K,e6.o];have:=e5.o;simp only[Un,intOf];omega
  have z3:(k != m)=true:=by rw[bne_iff_ne];exact d3
  obtain⟨M,O,k2,k3⟩:=d.o.k4;obtain⟨r0,r1,r2,r3⟩:=d.o.f4
  go_wp2
  have hZ:Bx ((((wr.setCell ⟨w.heap.size,0,none⟩ (.int .i64 A)).setCell ⟨w.heap.size,1,none⟩ (.int .i64 B)).setCell ⟨w.heap.size,2,none⟩ (.int .i64 C)).setCell ⟨w.heap.size,3,none⟩ (.int .i64 D)) w.heap.size [.int .i64 A,.int .i64 B,.int .i64 C,.int .i64 D]:=(((d.o.set 0 _).set 1 _).set 2 _).set 3 _;have hE:Up w ((((wr.setCell ⟨w.heap.size,0,none⟩ (.int .i64 A)).setCell ⟨w.heap.size,1,none⟩ (.int .i64 B)).setCell ⟨w.heap.size,2,none⟩ (.int .i64 C)).setCell ⟨w.heap.size,3,none⟩ (.int .i64 D)):=(((E.o.sc).sc).sc).sc;generalize (((wr.setCell ⟨w.heap.size,0,none⟩ (.int .i64 A)).setCell ⟨w.heap.size,1,none⟩ (.int .i64 B)).setCell ⟨w.heap.size,2,none⟩ (.int .i64 C)).setCell ⟨w.heap.size,3,none⟩ (.int .i64 D)=W5 at *;obtain⟨M,O,k2,k3⟩:=hZ.k4;refine Jj (v:=.agg #[.int .i64 A,.int .i64 B,.int .i64 C,.int .i64 D]) ?_ rfl ⟨A,B,C,D,rfl,⟨x,y,HS.o⟩,hE⟩;simp[results,results225,go_sem,M,O,k2,k3]
 by_cases g1:0<y+C
 ·have g2:¬ 0<y+D:=fun h=>hg ⟨g1,h⟩;obtain⟨M,O,k2,k3⟩:=d.o.k4;obtain⟨r0,r1,r2,r3⟩:=d.o.f4
  go_wp2
  have hZ:Bx ((((wr.setCell ⟨w.heap.size,0,none⟩ (.int .i64 A)).setCell ⟨w.heap.size,1,none⟩ (.int .i64 B)).setCell ⟨w.heap.size,2,none⟩ (.int .i64 C)).setCell ⟨w.heap.size,3,none⟩ (.int .i64 D)) w.heap.size [.int .i64 A,.int .i64 B,.int .i64 C,.int .i64 D]:=(((d.o.set 0 _).set 1 _).set 2 _).set 3 _;have hE:Up w ((((wr.setCell ⟨w.heap.size,0,none⟩ (.int .i64 A)).setCell ⟨w.heap.size,1,none⟩ (.int .i64 B)).setCell ⟨w.heap.size,2,none⟩ (.int .i64 C)).setCell ⟨w.heap.size,3,none⟩ (.int .i64 D)):=(((E.o.sc).sc).sc).sc;generalize (((wr.setCell ⟨w.heap.size,0,none⟩ (.int .i64 A)).setCell ⟨w.heap.size,1,none⟩ (.int .i64 B)).setCell ⟨w.heap.size,2,none⟩ (.int .i64 C)).setCell ⟨w.heap.size,3,none⟩ (.int .i64 D)=W5 at *;obtain⟨M,O,k2,k3⟩:=hZ.k4;refine Jj (v:=.agg #[.int .i64 A,.int .i64 B,.int .i64 C,.int .i64 D]) ?_ rfl ⟨A,B,C,D,rfl,⟨x,y,HS.o⟩,hE⟩;simp[results,results225,go_sem,M,O,k2,k3]
 obtain⟨M,O,k2,k3⟩:=d.o.k4;obtain⟨r0,r1,r2,r3⟩:=d.o.f4
 go_wp2
 have hZ:Bx ((((wr.setCell ⟨w.heap.size,0,none⟩ (.int .i64 A)).setCell ⟨w.heap.size,1,none⟩ (.int .i64 B)).setCell ⟨w.heap.size,2,none⟩ (.int .i64 C)).setCell ⟨w.heap.size,3,none⟩ (.int .i64 D)) w.heap.size [.int .i64 A,.int .i64 B,.int .i64 C,.int .i64 D]:=(((d.o.set 0 _).set 1 _).set 2 _).set 3 _;have hE:Up w ((((wr.setCell ⟨w.heap.size,0,none⟩ (.int .i64 A)).setCell ⟨w.heap.size,1,none⟩ (.int .i64 B)).setCell ⟨w.heap.size,2,none⟩ (.int .i64 C)).setCell ⟨w.heap.size,3,none⟩ (.int .i64 D)):=(((E.o.sc).sc).sc).sc;generalize (((wr.setCell ⟨w.heap.size,0,none⟩ (.int .i64 A)).setCell ⟨w.heap.size,1,none⟩ (.int .i64 B)).setCell ⟨w.heap.size,2,none⟩ (.int .i64 C)).setCell ⟨w.heap.size,3,none⟩ (.int .i64 D)=W5 at *;obtain⟨M,O,k2,k3⟩:=hZ.k4;refine Jj (v:=.agg #[.int .i64 A,.int .i64 B,.int .i64 C,.int .i64 D]) ?_ rfl ⟨A,B,C,D,rfl,⟨x,y,HS.o⟩,hE⟩;simp[results,results225,go_sem,M,O,k2,k3]
theorem Cb (x y:Nat)(w:World)(hx:x<18446744073709551616)(hy:y<18446744073709551616) :
 Calls prog 228 #[.int .u64 (x:Nat),.int .u64 (y:Nat)] w fun e w'=>e=.returned (.int .u64 (Nat.gcd x y:Nat))/\Up w w':=by
 obtain⟨d,K⟩:=O1 (Nat.gcd x y);have HD:=Hd K;rw[K];clear K
 go_in
 go_wp2
 go_loopw [0,1] (fun xv yv wr=>∃ a b:Nat,xv=.int .u64 (a:Nat)/\yv=.int .u64 (b:Nat)/\Nat.gcd a b=d/\a<18446744073709551616/\b<18446744073709551616/\Up w wr) (fun _ yv _=>(intOf yv).toNat)
 case atStart=>exact⟨x,y,rfl,rfl,HD.o,hx,hy,Jh _ _⟩
 obtain⟨a,b,rfl,rfl,hg,ha,hb,Z⟩:=hrel;have V:=Hd hg;have M:=Hd Z;clear hg Z
 by_cases I:b=0
 ·subst I;have HA:Hid (a=d):=by have:=V.o;rw[Nat.gcd_zero_right] at this;exact this
  go_wp2
  go_ret
  exact⟨K5 (by rw[HA.o]),M.o⟩
 have G:Hid (Nat.gcd b (a % b)=d):=by
  unfold Hid
  rw[<-V.o,Uy a b,Nat.gcd_rec b a,Uy]
 have j:=Zx a (Yp I);obtain⟨A,J⟩:∃ A:Int,(a:Int)=A:=⟨_,rfl⟩;obtain⟨C,E⟩:∃ C:Int,(b:Int)=C:=⟨_,rfl⟩;have Y:A % C=((a % b:Nat):Int):=by rw[<-J,<-E];rfl
 have U:Hid (A % C=((a % b:Nat):Int)):=Y;have O:=Hd E;have h:Hid (a % b<b/\b<18446744073709551616):=⟨j,hb⟩;have c1:0<C:=by omega
 have c2:C<18446744073709551616:=by omega
 have a1:0<=A:=by omega
 have a2:A<18446744073709551616:=by omega
 rw[J,E];clear Y J E I j ha hb
 go_wp2
 go_quiet (fail)
 go_wp2
 go_roundw
 case rel=>exact⟨b,a % b,Ob O.o.symm,Ob U.o,G.o,h.o.2,by have:=h.o;omega,below_drewN M.o _⟩
 simp[intOf];have:=U.o;have:=O.o;have:=h.o.1;omega
theorem O7.drewN {w:World}{R:Nat}{l:List Nat}(h:O7 w R l)(n:Nat):O7 (w.drewN n) R l:=by
 obtain⟨t,h⟩:=h;exact⟨t,((below_drewN (Jh _ w) n).block R (J1.1 h).1).trans h⟩
theorem Bx.drewN {W:World}{g:Nat}{l:List Value}(h:Bx W g l)(n:Nat):Bx (W.drewN n) g l:=h.bl h.lt (below_drewN (Jh _ W) n)
theorem KE (P VL VN c s x y f0 f1 Va Vb low c':Int)(h:VL+P*c=f0*Va+f1*Vb)(hs:s=c+(f0*x+f1*y))(hN:VN=VL+P*low)(hl:s=low+1000000000*c') :
 VN+P*1000000000*c'=f0*(Va+P*x)+f1*(Vb+P*y):=by
 have d:P*s=P*low+P*1000000000*c':=by rw[hl];grind
 have j:P*s=P*c+f0*(P*x)+f1*(P*y):=by rw[hs];grind
 rw[hN]
 grind
theorem XQ (f X:Int)(h1 : -1000000000<f)(h2:f<1000000000)(h3:0<=X)(h4:X<1000000000) : -999999998000000001<=f*X/\f*X<=999999998000000001:=by
 have d:f*X<=999999999*X:=V5 (by omega) h3;have h : -999999999*X<=f*X:=V5 (by omega) h3;constructor<;>omega
theorem LR (S:Int):S=S.tmod 1000000000+1000000000*S.tdiv 1000000000:=by
 have:=Int.tmod_add_mul_tdiv S 1000000000;omega
theorem CB (S:Int) : -1000000000<S.tmod 1000000000/\S.tmod 1000000000<1000000000:=by
 have d:=Int.tmod_lt_of_pos S (show (0:Int)<1000000000 by decide);have h:=Int.lt_tmod_of_pos S (show (0:Int)<1000000000 by decide);omega
theorem IR (P VL c V:Int)(h:VL+P*c=V)(h1:0<=VL)(h2:VL<P)(h3:0<=V)(h4:V<P):c=0:=by
 rcases Int.lt_trichotomy c 0 with h5|h5|h5
 ·have:=V9 (show c <= -1 by omega) (show 0<=P by omega);omega
 ·exact h5
 have:=V9 (show 1<=c by omega) (show 0<=P by omega);omega
theorem Dh (B:Nat)(va vb:Value)(a b:List Nat)(f0 f1:Int)(V:Nat)(w:World)(ha:U1 B w va a)(hb:U1 B w vb b)(hla:a.length<=100000)(hlb:b.length<=a.length)(hf0 : -1000000000<f0/\f0<1000000000)(hf1 : -1000000000<f1/\f1<1000000000)
 (hV:f0*val a+f1*val b=V) (hVl:V<1000000000 ^ a.length) :
 Calls prog 227 #[va,vb,.agg #[.int .i64 f0,.int .i64 f1]] w fun e w'=>∃ v L,e=.returned v/\U1 w.heap.size w' v L/\isTrim L/\val L=V/\L.length<=a.length/\Up w w':=by
 obtain⟨i0,d1,f5,f8,f9⟩:=info_parts info_u32;have d7:Hid (∀ W,Up w W->U1 B W vb b):=fun W hW=>hb.bl hW;obtain⟨pa,ca,rfl,_⟩:=id ha;obtain⟨pb,cb,rfl,_⟩:=id hb;obtain⟨_,_,_,b9,I⟩:=ha.cells;obtain⟨_,_,_,c6,_⟩:=hb.cells;have HA:=Hd I;clear I ha hb
 go_in
 go_wp2_with (at_make;refine wpList_make_full _ rfl _ _ 121 rfl w.heap.size 154 i0 (.int .u32 0) 1 underlying121 d1 f5 f8 .i64 .i64 _ _ a.length rfl rfl (by first|rfl|omega) (by first|rfl|omega) (by first|omega|(rw[f9];omega)) (by unfold maxLen;omega) (by simp) ?_)
 intro w1 G c8
 first|rw[K8] at G|rw[Ka] at G
 have O:O7 w1 (w.heap.size+1) (List.replicate a.length 0):=(Kp G).tail;have Z:Below (w.heap.size+1) (w.alloc (.cells #[.int .i64 f0,.int .i64 f1] 230)) w1:=(Jh _ _).grown c8 (by simp) (fun k h=>by cases h);have hF:Bx w1 w.heap.size [.int .i64 f0,.int .i64 f1]:=(Oi w [.int .i64 f0,.int .i64 f1] 230).bl (Yi _) Z;have b8:Up w w1:=(Oy w _).trans (Z.mono (Y2 _));clear G c8 Z
 go_wp2
 go_loopw [8,16] (fun cv iv wr=>∃ (i:Nat) (c:Int) (L:List Nat),i<=a.length/\cv=.int .i64 c/\iv=.int .i64 (i:Nat)/\(-2000000000<=c/\c<=2000000000)/\L.length=a.length/\okL L/\O7 wr (w.heap.size+1) L/\Bx wr w.heap.size [.int .i64 f0,.int .i64 f1] /\
  (val (L.take i):Int)+(1000000000 ^ i:Nat)*c=f0*val (a.take i)+f1*val (b.take i)/\Up w wr) (fun _ iv _=>a.length - (intOf iv).toNat)
 case atStart=>exact⟨0,0,_,Jy _,rfl,rfl,by omega,by simp,fun x hx=>by rw[Yq hx];omega,O,hF,by simp[val],b8⟩
 clear O hF b8;obtain⟨i,c,L,hi,rfl,rfl,⟨h0,h1⟩,a8,A,O,hF,d,hB⟩:=hrel
 by_cases d0:i<a.length
 ·obtain⟨ba,oa,rfl,d2,I⟩:=HA.o i d0;rw[<-hB.cell (p:=⟨ba,oa+i,none⟩) d2] at I;have e8:=O9 a b9 i d0;have e9:=I1 b c6 i;obtain⟨X,hX⟩:∃ X:Int,((a.getD i 0:Nat):Int)=X:=⟨_,rfl⟩;obtain⟨Y,hY⟩:∃ Y:Int,((b.getD i 0:Nat):Int)=Y:=⟨_,rfl⟩;rw[hX] at I;obtain⟨m1,m2⟩:=XQ f0 X hf0.1 hf0.2 (by omega) (by omega);obtain⟨m3,m4⟩:=XQ f1 Y hf1.1 hf1.2 (by omega) (by omega);obtain⟨S,hS⟩:=O1 (c+(f0*X+f1*Y));obtain⟨R,b3⟩:=O1 (S.tmod 1000000000);obtain⟨Q,hQ⟩:=O1 (S.tdiv 1000000000);have b4:=LR S;have e7:=CB S;rw[b3,hQ] at b4;rw[b3] at e7;have x1:0<=X/\X<1000000000:=by omega
  have y1:0<=Y/\Y<1000000000:=by omega
  have b7:Hid (∀ (low:Nat) (c':Int),S=low+1000000000*c'->(val ((L.set i low).take (i+1)):Int)+(1000000000 ^ (i+1):Nat)*c'=f0*val (a.take (i+1))+f1*val (b.take (i+1))):=fun low c' hl=>by
   rw[O2 L i low (by omega),Ok a i,Ok b i,J5,Us,Us,Us,Z5,Z5,Z5,Z5,hX,hY];exact KE _ _ _ c S X Y f0 f1 _ _ low c' d hS.symm rfl hl
  have u1:IntKind.i64.wrap (f0*X)=f0*X:=Kb _ (by omega) (by omega);have u2:IntKind.i64.wrap (f1*Y)=f1*Y:=Kb _ (by omega) (by omega);have u3:IntKind.i64.wrap (f0*X+f1*Y)=f0*X+f1*Y:=Kb _ (by omega) (by omega);have u4:IntKind.i64.wrap (c+(f0*X+f1*Y))=S:=by rw[hS];exact Kb _ (by omega) (by omega)
  have u5:IntKind.i64.wrap (S.tmod 1000000000)=R:=by rw[b3];exact Kb _ (by omega) (by omega)
  have u6:IntKind.i64.wrap (S.tdiv 1000000000)=Q:=by rw[hQ];exact Kb _ (by omega) (by omega)
  obtain⟨e0,e1⟩:=hF.k2;have e6:=O.cell i (by omega);have h2:=O.frozen i;have HY:=Hd hY;have HR:=Hd O;have HF:=Hd hF;have HB:=Hd hB;have d8:=Hd A;have U:=Hd a8;have HI:=Hd (d7.o _ hB);have q1 : -1999999999<=Q/\Q<=1999999999:=by omega
  have K:Hid (∀ (nq:Nat) (low:Nat),low<1000000000->O7 ((wr.drewN nq).setCell ⟨w.heap.size+1,i,none⟩ (.int .u32 (low:Nat))) (w.heap.size+1) (L.set i low)/\okL (L.set i low)):=fun nq low hl=>
   ⟨O7.set (w:=wr.drewN nq) (HR.o.drewN nq) i low (by have:=U.o;omega),U4 L d8.o i low hl⟩
  have M:Hid (∀ (nq:Nat) (u:Value),Bx ((wr.drewN nq).setCell ⟨w.heap.size+1,i,none⟩ u) w.heap.size [.int .i64 f0,.int .i64 f1]/\Up w ((wr.drewN nq).setCell ⟨w.heap.size+1,i,none⟩ u)):=fun nq u=>
   ⟨(HF.o.drewN nq).other _ (by simp) u,(below_drewN HB.o nq).setCell (p:=⟨w.heap.size+1,i,none⟩) (Y2 _) u⟩
  have b6:=Hd b4;clear O hF hB A d hY hX hS e8 e9 b4
  go_upto_region 6 with fail
  go_quiet (first|(go_at_call 243;refine Calls.quiet_of_same (Qr B _ b _ i Y _ HI.o rfl (by omega) HY.o)))
  by_cases g3:R<0
  ·have u7:IntKind.i64.wrap (R+1000000000)=R+1000000000:=Kb _ (by omega) (by omega);have u8:IntKind.i64.wrap (Q - 1)=Q - 1:=Kb _ (by omega) (by omega);obtain⟨low,E⟩:∃ low:Nat,R+1000000000=(low:Int):=⟨(R+1000000000).toNat,by omega⟩;have j:=Hd E;have J:low<1000000000:=by omega
   clear E
   go_wp2
   rw[j.o]
   go_roundw
   case rel=>exact⟨i+1,Q - 1,L.set i low,by omega,rfl,by go_num,by omega,by rw[List.length_set];exact U.o,(K.o nq low J).2,(K.o nq low J).1,(M.o nq _).1,b7.o low (Q - 1) (by have:=b6.o;have:=j.o;omega),(M.o nq _).2⟩
   simp[intOf];omega
  obtain⟨low,E⟩:∃ low:Nat,R=(low:Int):=⟨R.toNat,by omega⟩;have j:=Hd E;have J:low<1000000000:=by omega
  clear E
  go_wp2
  rw[j.o]
  go_roundw
  case rel=>exact⟨i+1,Q,L.set i low,by omega,rfl,by go_num,by omega,by rw[List.length_set];exact U.o,(K.o nq low J).2,(K.o nq low J).1,(M.o nq _).1,b7.o low Q (by have:=b6.o;have:=j.o;omega),(M.o nq _).2⟩
  simp[intOf];omega
 obtain rfl:i=a.length:=by omega
 rw[Jn (by omega),Jn Of,Jn hlb,hV] at d;have hP:((val L:Nat):Int)<((1000000000 ^ a.length:Nat):Int):=by
  have:=Gu L A;rw[a8] at this;exact Int.ofNat_lt.2 this
 have e5:=IR _ _ c V d (Ut _) hP (Ut _) (Int.ofNat_lt.2 hVl);rw[e5,Int.mul_zero,Int.add_zero] at d;have d3:val L=V:=Int.ofNat.inj d;have HI:Hid (U1 w.heap.size wr (.slice (some ⟨w.heap.size+1,0,none⟩) a.length a.length) L):=by
  have h:=O.isL (B:=w.heap.size) (cap:=a.length) (Y2 _) A (by omega) (by unfold maxLen;omega);rw[a8] at h;exact h
 have HT:Hid (val (Oe L)=V/\(Oe L).length<=a.length/\isTrim (Oe L)):=⟨by rw[O3];exact d3,by have:=Ku L;omega,trimL_trim _⟩;have d6:=Hd hB;clear d O hB A hF hP d3 hV hVl
 go_wp2_with fail
 refine (E4 w.heap.size _ L _ HI.o).mono ?_;rintro e w5 ⟨v,rfl,hcut,rfl⟩;have HW:Hid (U1 w.heap.size w5 v (Oe L)):=hcut _ _ HI.o;obtain⟨pv,cv,hv,_⟩:=HW.o;subst hv;clear hcut
 go_wp2
 go_ret
 exact⟨_,_,rfl,HW.o,HT.o.2.2,HT.o.1,HT.o.2.1,d6.o⟩
theorem B6 (a b:List Nat)(ta:isTrim a)(ob:okL b)(h:val a<=val b):a.length<=b.length:=by
 by_cases ha:a=[]
 ·rw[ha];exact Jy _
 have d:=Xd a ta ha;have j:=Gu b ob;have h3:1000000000 ^ (a.length - 1)<1000000000 ^ b.length:=by omega
 have h4:=(Nat.pow_lt_pow_iff_right (show 1<1000000000 by decide)).1 h3;omega
theorem DE (a:List Nat)(n:Nat)(h:a.length=n+1)(ta:isTrim a):1<=a.getD n 0:=by
 have d:a≠[]:=by rintro rfl;simp at h
 have:=ta d;rw[List.getLast_eq_getElem] at this;rw[Jk,Jf (by omega)];simp only[h,Z7] at this;simp only[Un];omega
theorem DD (a b c d:Int)(w:World):(Op.equalIn 10000 230 (.agg #[.int .i64 a,.int .i64 b]) (.agg #[.int .i64 c,.int .i64 d])).run prog w=.ok (a==c&&b==d) w:=by
 have u3:=underlying2;have a3:=Tryz.isAgg2;have z3:=Tryz.sizeOf2;rw[show (10000:Nat)=9999+1 from rfl,Op.equalIn];simp only[Sem.run_bind,run_underlying underlying230,Result.andThen_ok];simp only[Std.Legacy.Range.forIn_eq_forIn_range',Std.Legacy.Range.size,Nat.sub_zero,Z7,Nat.div_one,List.range'_succ,List.range'_zero,List.forIn_cons,List.forIn_nil]
 go_simp
 by_cases h:a=c<;>by_cases j:b=d<;>simp[h,j]
theorem PK (a b q r:Nat)(h:a=q*b+r):Nat.gcd b r=Nat.gcd a b:=by
 rw[h,Uy (q*b+r) b,Nat.gcd_rec b (q*b+r),Yy,Nat.mul_add_mod,Nat.gcd_rec b r]
theorem Gd {N:Nat}(w:World)(o:Obj)(h:N<=w.heap.size):Below N w (w.alloc o):=(Jh _ w).alloc h o
def GJ (B n d:Nat)(w0:World)(k:Nat)(av bv:Value)(wr:World):Prop:=
 ∃ A L:List Nat,(U1 B wr av A/\U1 B wr bv L)/\(isTrim A/\isTrim L)/\(val L<=val A/\val L=k)/\Nat.gcd (val A) (val L)=d/\A.length<=n/\Up w0 wr
theorem D5 (B:Nat)(va vb:Value)(a b:List Nat)(n:Nat)(w:World)(hBw:B<=w.heap.size)(ha:U1 B w va a)(hb:U1 B w vb b)(ta:isTrim a)(tb:isTrim b)(hla:a.length<=n)(hlb:b.length<=n)(hn:n<=90000)(hNS:NS w) :
 Calls prog 203 #[va,vb] w fun e w'=>∃ v L,e=.returned v/\U1 B w' v L/\isTrim L/\val L=Nat.gcd (val a) (val b)/\Up w w':=by
 have HA:=Hd ha;have HB:=Hd hb;have l1:=Hd hNS;have HT:Hid (isTrim a/\isTrim b):=⟨ta,tb⟩;have e5:=Hd hBw;obtain⟨pa,ca,rfl,_,_,oa,_⟩:=ha;obtain⟨pb,cb,rfl,_,_,ob,_⟩:=hb;obtain⟨d,hd⟩:=O1 (Nat.gcd (val a) (val b));rw[hd];have HD:=Hd hd;obtain⟨c,hc⟩:=O1 (El a b);have HC:=Hd hc;have r3 : -1<=c/\c<=1:=by rw[<-hc];exact Qe a b
 have g1:Hid (if c<0 then val a<=val b else val b<=val a):=by
  unfold Hid
  rw[<-hc,Gf a b oa ob ta tb];unfold Ay
  split
  ·rw[if_pos (by decide)];omega
  split
  ·rw[if_neg (by decide)];omega
  rw[if_neg (by decide)];omega
 clear hd hc ta tb hNS hBw oa ob
 by_cases m7:c<0
 all_goals
  go_in
  go_wp2_with fail
  refine (Ed B _ _ a b _ HA.o HB.o).mono ?_;rintro e w1 ⟨rfl,g7⟩;rw[HC.o];have Y:=Hd g7;clear g7
  go_wp2
  go_loopg [0,1] (min (val a) (val b)) (GJ B n d w)
  case atStart=>
   have h:=g1.o
   first
    | (rw[if_pos m7] at h;rw[Zi h];exact⟨b,a,⟨HB.o.bl Y.o,HA.o.bl Y.o⟩,⟨HT.o.2,HT.o.1⟩,⟨h,rfl⟩,by rw[Uy];exact HD.o,hlb,Y.o⟩)
    | (rw[if_neg (by omega)] at h;rw[Nat.min_eq_right h];exact⟨a,b,⟨HA.o.bl Y.o,HB.o.bl Y.o⟩,⟨HT.o.1,HT.o.2⟩,⟨h,rfl⟩,HD.o,hla,Y.o⟩)
  obtain⟨A,L,⟨hA,hL⟩,⟨tA,tL⟩,⟨e9,hk⟩,hg,r4,hB⟩:=hrel;obtain⟨p1,c1,rfl,_,_,oA,_⟩:=id hA;obtain⟨p2,c2,rfl,_,_,oL,_⟩:=id hL;have a7:=Hd hA;have b3:=Hd hL;have G:Hid ((isTrim A/\isTrim L)/\(val L<=val A/\val L=gk)/\Nat.gcd (val A) (val L)=d/\(okL A/\okL L)/\L.length<=A.length):=⟨⟨tA,tL⟩,⟨e9,hk⟩,hg,⟨oA,oL⟩,B6 L A tL oA e9⟩;have E:=Hd hB;have d6:=Hd (l1.o.bl hB);clear hA hL tA tL e9 hk hg hB oA oL
  by_cases h2:A.length<=2
  ·have HV:Hid (val A<1000000000000000000/\val L<1000000000000000000):=by
    have h1:=Gu A G.o.2.2.2.1.1;have h3:=Yx (show 0<1000000000 by decide) h2;have h4:=G.o.2.1.1;have h5:(1000000000:Nat) ^ 2=1000000000000000000:=by decide
    show val A<1000000000000000000/\val L<1000000000000000000
    omega
   go_wp2_with fail
   refine (Le B _ A _ a7.o).mono ?_;rintro e w2 ⟨rfl,b7⟩;rw[Mb _ (by have:=HV.o.1;omega)];have K:=Hd b7;clear b7
   go_wp2_with fail
   refine (Le B _ L _ (b3.o.bl K.o)).mono ?_;rintro e w3 ⟨rfl,b8⟩;rw[Mb _ (by have:=HV.o.2;omega)];have j:=Hd (K.o.trans (b8.mono K.o.size));clear b8
   go_wp2_with fail
   refine (Cb (val A) (val L) _ (by have:=HV.o.1;omega) (by have:=HV.o.2;omega)).mono ?_;rintro e w4 ⟨rfl,g8⟩;rw[G.o.2.2.1];have I:=Hd (j.o.trans (g8.mono j.o.size));have h8:Hid (d<18446744073709551616):=by
    have h1:=G.o.2.2.1
    by_cases h0:val A=0
    ·rw[h0,Nat.gcd_zero_left] at h1;have:=HV.o.2
     show d<18446744073709551616
     omega
    have h3:=Nat.gcd_le_left (val L) (Yp h0);have:=HV.o.1
    show d<18446744073709551616
    omega
   clear g8
   go_wp2_with fail
   refine (Xg d _ h8.o).mono ?_;rintro e w5 ⟨v,t,rfl,hv,ht,j3,_,J⟩;have k8:=Hd (E.o.trans ((I.o.trans (J.mono I.o.size)).mono E.o.size));have l3:Hid (U1 B w5 v t):=hv.mono (by have:=E.o.size;have:=I.o.size;have:=e5.o;omega);have g2:Hid (isTrim t/\val t=d):=⟨ht,j3⟩;obtain⟨pv,cv,n4,_⟩:=hv;subst n4;clear ht j3 J
   go_wp2
   go_ret
   exact⟨_,t,rfl,l3.o,g2.o.1,g2.o.2,k8.o⟩
  by_cases h0:L.length=0
  ·have HG:Hid (val A=d):=by
    have h1:=G.o.2.2.1;rw[Jv h0] at h1
    show val A=d
    simpa[val] using h1
   go_wp2
   go_ret
   exact⟨_,A,rfl,a7.o,G.o.1.1,HG.o,E.o⟩
  obtain⟨m,hm⟩:∃ m,A.length=m+3:=⟨A.length - 3,by omega⟩;have HM:=Hd hm;have r5:m<=90000:=by omega
  have q9:((L.length:Int)==0)=false:=by rw[Jc];omega
  clear hm
  go_wp2_with fail
  refine (Pb B _ _ A L m _ a7.o b3.o (by omega) HM.o (by have:=G.o.2.2.2.2;have:=HM.o;omega) (DE A (m+2) HM.o G.o.1.1) G.o.2.1.1).mono ?_;rintro e w2 ⟨x0,y0,rfl,O,b7⟩;have e6:=Hd O;have K:=Hd b7;have HX:Hid (x0<1000000000000000000/\y0<=x0):=by
   obtain⟨_,_,_,_,_,_,_,h1,h2⟩:=O;exact⟨h1,h2⟩
  clear O b7
  go_wp2_with fail
  refine (Pm x0 y0 _ HX.o.1 HX.o.2 (d6.o.bl K.o)).mono ?_;rintro e w3 ⟨Z,fB,fC,fD,rfl,i6,b8⟩;have l2:=Hd i6;have j:=Hd (K.o.trans (b8.mono K.o.size));obtain⟨n0,n1,n2,n3⟩:=d6.o.bl j.o;have o4:=Rd n0;clear i6 b8
  by_cases f5:Z=1/\fB=0
  ·obtain⟨rfl,rfl⟩:=f5;have hq:∀ W,(Op.equalIn 10000 230 (.agg #[.int .i64 1,.int .i64 0]) (.agg #[.int .i64 1,.int .i64 0])).run prog W=.ok true W:=fun W=>DD 1 0 1 0 W
   go_wp2_with fail
   refine (Rm B _ _ A L _ (by have:=e5.o;have:=E.o.size;have:=j.o.size;simp;omega) (a7.o.bl (j.o.trans (Gd _ _ j.o.size))) (b3.o.bl (j.o.trans (Gd _ _ j.o.size))) (by omega) G.o.1.1 G.o.1.2 (fun h=>h0 (by rw[h];rfl))).mono ?_;rintro e w5 ⟨v,u,Q,U,rfl,⟨⟨_,hu⟩,⟨_,j0⟩,_,e1,i1⟩,J⟩;have b9:Up wr w5:=(j.o.trans (Gd _ _ j.o.size)).trans (J.mono (by have:=j.o.size;simp;omega));have e7:Hid (GJ B n d w (val U) (.slice p2 L.length c2) u w5):=
    ⟨L,U,⟨b3.o.bl b9,hu⟩,⟨G.o.1.2,j0⟩,⟨by omega,rfl⟩,by rw[<-G.o.2.2.1];exact PK _ _ _ _ e1,by have:=G.o.2.2.2.2;omega,E.o.trans (b9.mono E.o.size)⟩
   have k9:Hid (val U<gk):=by unfold Hid;have:=G.o.2.1.2;omega
   obtain⟨pu,cu,m9,_⟩:=hu;subst m9;clear j0 e1 i1 J b9
   go_wp2
   go_roundg (val U)
   case measure=>exact k9.o
   exact e7.o
  have hq:∀ W,(Op.equalIn 10000 230 (.agg #[.int .i64 Z,.int .i64 fB]) (.agg #[.int .i64 1,.int .i64 0])).run prog W=.ok false W:=fun W=>by
   rw[DD]
   congr 1
   rw[Bool.and_eq_false_iff,Jc,Jc]
   by_cases h:Z=1
   ·exact .inr fun h'=>f5 ⟨h,h'⟩
   exact .inl h
  obtain⟨W4,d4⟩:=O1 (w3.alloc (.cells #[.int .i64 Z,.int .i64 fB,.int .i64 fC,.int .i64 fD] 232));have e8:Bx W4 w3.heap.size [.int .i64 Z,.int .i64 fB,.int .i64 fC,.int .i64 fD]:=by rw[<-d4];exact Oi w3 _ _
  have g6:Up wr W4:=by rw[<-d4];exact j.o.trans (Gd _ _ j.o.size)
  have l4:=Hd d4;have I:=Hd g6;have g0:Hid (∀ W,Up W4 W->W.cell? ⟨w3.heap.size,0,none⟩=some (.int .i64 Z)/\W.cell? ⟨w3.heap.size,1,none⟩=some (.int .i64 fB)/\W.cell? ⟨w3.heap.size,2,none⟩=some (.int .i64 fC)/\W.cell? ⟨w3.heap.size,3,none⟩=some (.int .i64 fD)):=fun W hW=>by
   have h:=e8.bl e8.lt hW;exact⟨h.cell 0,h.cell 1,h.cell 2,h.cell 3⟩
  have d2:Hid (∀ W,Up W4 W->(U1 B W (.slice p1 A.length c1) A/\U1 B W (.slice p2 L.length c2) L)/\Up wr W):=fun W hW=>by
   have hh:=I.o.trans (hW.mono I.o.size);exact⟨⟨a7.o.bl hh,b3.o.bl hh⟩,hh⟩
  obtain⟨xf,yf,c8⟩:=l2.o;have c6:=Ax x0 y0 Z fB fC fD xf yf c8 HX.o.1 HX.o.2;obtain⟨SS,a',b',ea,eb,j4,j5,_,_⟩:=e6.o;obtain⟨a1,b1,h6,h7,h9,d8,l9⟩:=QM x0 y0 Z fB fC fD xf yf SS (val A) (val L) a' b' c8 f5 ea eb j4 j5;have m8:val A<1000000000 ^ A.length:=Gu A G.o.2.2.2.1.1;have M:Hid ((Z*(val A:Nat)+fB*(val L:Nat)=(a1:Nat)/\a1<1000000000 ^ A.length)/\(fC*(val A:Nat)+fD*(val L:Nat)=(b1:Nat)/\b1<1000000000 ^ A.length)/\Nat.gcd a1 b1=d/\b1<a1/\b1<gk):=by
   have h1:=G.o.2.1;exact⟨⟨h6,by omega⟩,⟨h7,by omega⟩,h9.trans G.o.2.2.1,d8,by omega⟩
  have HF:Hid (((-1000000000<Z/\Z<1000000000)/\(-1000000000<fB/\fB<1000000000))/\(-1000000000<fC/\fC<1000000000)/\(-1000000000<fD/\fD<1000000000)):=⟨⟨c6.1,c6.2.1⟩,c6.2.2.1,c6.2.2.2.1⟩;have V:Hid (L.length<=A.length/\A.length<=100000):=⟨G.o.2.2.2.2,by omega⟩;clear c8 c6 ea eb j4 j5 h6 h7 h9 d8 l9 m8 e8 g6 d4
  go_upto_region 10 with fail
  rw[l4.o];obtain⟨c0,q6,q7,c3⟩:=g0.o W4 (Jh _ _)
  go_region_with (first
   | (go_at_call_of 227 (Value.int IntKind.i64 Z)
      refine (Dh B _ _ A L Z fB a1 _ (d2.o _ (Jh _ W4).drew).1.1 (d2.o _ (Jh _ W4).drew).1.2 V.o.2 V.o.1 HF.o.1.1 HF.o.1.2 M.o.1.1 M.o.1.2).mono ?_;rintro e w5 ⟨v1,L1,rfl,j1,i7,e2,d9,J⟩;have a8:Hid (Up W4 w5):=(Jh _ W4).drew.trans J;have b4:Hid (U1 W4.heap.size w5 v1 L1/\isTrim L1/\val L1=a1/\L1.length<=A.length):=⟨j1,i7,e2,d9⟩;obtain⟨q5,n8,n9,q8⟩:=g0.o w5 a8.o;clear j1 i7 e2 d9 J)
   | (go_at_call_of 227 (Value.int IntKind.i64 fC)
      refine (Dh B _ _ A L fC fD b1 _ (d2.o _ a8.o).1.1 (d2.o _ a8.o).1.2 V.o.2 V.o.1 HF.o.2.1 HF.o.2.2 M.o.2.1.1 M.o.2.1.2).mono ?_;rintro e w6 ⟨v2,L2,rfl,j2,i8,e3,e0,g9⟩;have f9:=Hd g9;have b5:Hid (U1 w5.heap.size w6 v2 L2/\isTrim L2/\val L2=b1/\L2.length<=A.length):=⟨j2,i8,e3,e0⟩;clear j2 i8 e3 e0 g9))
  all_goals
   have e7:Hid (GJ B n d w b1 v1 v2 w6):=by
    have s1:=e5.o;have s2:=E.o.size;have s3:=I.o.size;have s4:=a8.o.size;exact⟨L1,L2,⟨(b4.o.1.bl f9.o).mono (by omega),b5.o.1.mono (by omega)⟩,⟨b4.o.2.1,b5.o.2.1⟩,⟨by rw[b4.o.2.2.1,b5.o.2.2.1];exact Uz M.o.2.2.2.1,b5.o.2.2.1⟩,by rw[b4.o.2.2.1,b5.o.2.2.1];exact M.o.2.2.1,by have:=b4.o.2.2.2;omega,
     E.o.trans ((I.o.trans ((a8.o.trans (f9.o.mono s4)).mono s3)).mono s2)⟩
   try simp only[Yz,Ys,Yn,Act.put,Ja,Jd,Je]
   go_wp2
   go_roundg b1
   case measure=>exact M.o.2.2.2.2
   exact e7.o
def E8 (x y:Int):Int:=((Int.gcd x y:Nat):Int)
theorem F0 (n:Bool)(v:Nat):(sg n v).natAbs=v:=by cases n<;>simp[sg]
theorem PU (na nb:Bool)(a b:Nat):E8 (sg na a) (sg nb b)=((Nat.gcd a b:Nat):Int):=by
 unfold E8 Int.gcd;rw[F0,F0]
theorem PE (a b L:List Nat)(n:Nat)(tL:isTrim L)(oa:okL a)(ob:okL b)(hv:val L=Nat.gcd (val a) (val b))(ha:a.length<=n)(hb:b.length<=n):L.length<=n:=by
 by_cases d:val a=0
 ·rw[d,Nat.gcd_zero_left] at hv;have:=B6 L b tL ob (by omega);omega
 have h:=Nat.gcd_le_left (val b) (Yp d);have:=B6 L a tL oa (by omega);omega
theorem Rc (B:Nat)(za zb:Value)(x y:Int)(n:Nat)(w:World)(hBw:B<=w.heap.size)(ha:Gt B w za x n)(hb:Gt B w zb y n)(hn:n<=90000)(hNS:NS w) :
 Calls prog 187 #[za,zb] w fun e w'=>∃ z,e=.returned z/\Gt B w' z (E8 x y) n/\Up w w':=by
 obtain⟨na,va,a,rfl,b5,ta,rfl,a8⟩:=ha;obtain⟨nb,vb,b,rfl,b6,tb,rfl,b3⟩:=hb;rw[PU];have c6:=Hd b5;have c8:=Hd b6;have b9:=Hd hNS;have b8:=Hd hBw;have V:Hid (isTrim a/\isTrim b):=⟨ta,tb⟩;obtain⟨pa,ca,rfl,_,_,oa,_⟩:=b5;obtain⟨pb,cb,rfl,_,_,ob,_⟩:=b6;have U:Hid (okL a/\okL b):=⟨oa,ob⟩;clear ta tb hNS hBw oa ob;obtain⟨W0,E⟩:=O1 (((w.alloc (.cells #[.bool (U0 na a),.slice pa a.length ca] 162)).alloc (.cells #[.bool (U0 nb b),.slice pb b.length cb] 162)).alloc (.cells #[.bool false,.slice none 0 0] 162));have d0:=Hd E;have d:Hid (Up w W0):=by
  unfold Hid
  rw[<-E];exact Om (Om (Oy _ _) _) _
 have J:Bx W0 (w.heap.size+1+1) [.bool false,.slice none 0 0]:=by
  rw[<-E];have h:=Oi ((w.alloc (.cells #[.bool (U0 na a),.slice pa a.length ca] 162)).alloc (.cells #[.bool (U0 nb b),.slice pb b.length cb] 162)) [.bool false,.slice none 0 0] 162;rw[Ji,Ji] at h;exact h
 have O:Hid (∀ W,Up W0 W->Bx W (w.heap.size+1+1) [.bool false,.slice none 0 0]):=fun W hW=>J.bl J.lt hW;clear E J
 go_in
 go_wp2_with fail
 rw[d0.o];refine (D5 B _ _ a b n _ (by have:=b8.o;have:=d.o.size;omega) (c6.o.bl d.o) (c8.o.bl d.o) V.o.1 V.o.2 a8 b3 hn (b9.o.bl d.o)).mono ?_;rintro e w1 ⟨v,L,rfl,hv,tL,j,Z⟩;have HV:=Hd hv;have M:=Hd Z;have HL:Hid (isTrim L/\val L=Nat.gcd (val a) (val b)/\L.length<=n):=⟨tL,j,PE a b L n tL U.o.1 U.o.2 j a8 b3⟩;obtain⟨pv,cv,d4,_⟩:=hv;subst d4;clear tL j Z
 go_wp2_with fail
 refine (Kd B false _ L _ HV.o).mono ?_;rintro e A ⟨v',rfl,hcut,I⟩;have Y:Hid (U1 B A v' L):=by
  have h:=hcut _ _ (HV.o.bl I);rw[Q6 L HL.o.1] at h;exact h
 have G:=Hd (M.o.trans (I.mono M.o.size));have e1:U0 false (Oe L)=false:=by unfold U0;rfl
 rw[e1];have hb:=O.o A G.o;obtain⟨k0,k1⟩:=hb.k2;obtain⟨r0,r1⟩:=hb.f2;obtain⟨K,c2,d3,_⟩:=Y.o;subst d3;clear hcut I hb e1
 go_wp2
 have a7:=O.o A G.o;have b4:Ew A (w.heap.size+1+1):=fun i x=>by
  rw[a7.cell i]
  match i with
  | 0=>simp
  | 1=>simp
  | i+2=>simp
 have kk:Kq (w.heap.size+1+1) (w.heap.size+1+1) A ((A.setCell ⟨w.heap.size+1+1,0,none⟩ (.bool false)).setCell ⟨w.heap.size+1+1,1,none⟩ (.slice K L.length c2)):=
  Kq.setCell (Kq.setCell (Kq.refl _ _ A) ⟨w.heap.size+1+1,0,none⟩ (.bool false) (Or.inl rfl)) ⟨w.heap.size+1+1,1,none⟩ (.slice K L.length c2) (Or.inl rfl)
 have d2:=Y.o.keeps b4 b4 kk;have hZ:Bx ((A.setCell ⟨w.heap.size+1+1,0,none⟩ (.bool false)).setCell ⟨w.heap.size+1+1,1,none⟩ (.slice K L.length c2)) (w.heap.size+1+1) [.bool false,.slice K L.length c2]:=(a7.set 0 _).set 1 _;have hE:Up w ((A.setCell ⟨w.heap.size+1+1,0,none⟩ (.bool false)).setCell ⟨w.heap.size+1+1,1,none⟩ (.slice K L.length c2)):=
  ((d.o.trans (G.o.mono d.o.size)).setCell (p:=⟨w.heap.size+1+1,0,none⟩) (by show _<=w.heap.size+1+1;omega) _).setCell (p:=⟨w.heap.size+1+1,1,none⟩) (by show _<=w.heap.size+1+1;omega) _
 generalize (A.setCell ⟨w.heap.size+1+1,0,none⟩ (.bool false)).setCell ⟨w.heap.size+1+1,1,none⟩ (.slice K L.length c2)=WE at *;obtain⟨m0,m1⟩:=hZ.k2;refine Jj (v:=.agg #[.bool false,.slice K L.length c2]) ?_ rfl ⟨_,rfl,⟨false,_,L,by unfold U0;rfl,d2,HL.o.1,by rw[HL.o.2.1];rfl,HL.o.2.2⟩,hE⟩;simp[results,results187,go_sem,m0,m1]
end Go.Proofs.YtipgjenolpofpaaGreatDoor.Q
