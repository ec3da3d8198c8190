import Derived.IntWalk
import Derived.Deep.LoopGhost
import Derived.Laws.StructEq
import Derived.Laws.Tables
import Derived.Test.YtjjgilacnocigaaGreatDoorP11
set_option maxRecDepth 100000
set_option maxHeartbeats 4000000
namespace Go.Proofs.YtjjgilacnocigaaGreatDoor.Q
open ChangeShapes WideShapes ChangeAt RowKit Proofs.Tryz
variable {W:World}{g:Nat}{l r:List Value}{v0 v1 v2:Value}
def Bx (W:World)(g:Nat)(l:List Value):Prop:=∃ ty,W.heap[g]? = some (.cells l.toArray ty (0,0))
theorem Bx.lt (h:Bx W g l):g<W.heap.size:=by
 obtain⟨t,h⟩:=h;exact (Yr.1 h).1
theorem Bx.cell (h:Bx W g l)(i:Nat):W.cell? ⟨g,i,none⟩=l[i]? := by
 obtain⟨t,h⟩:=h;simp[World.cell?,h]
theorem Bx.frozen (h:Bx W g l)(i:Nat):W.frozen? ⟨g,i,none⟩=false:=by
 obtain⟨t,h⟩:=h;simp[World.frozen?,h]
theorem Bx.set (h:Bx W g l)(i:Nat)(v:Value):Bx (W.setCell ⟨g,i,none⟩ v) g (l.set i v):=by
 obtain⟨t,h⟩:=h;refine⟨t,?_⟩;obtain⟨d,j⟩:=Yr.1 h
 show (W.heap.modify g _)[g]? = _
 rw[Vv (by rw[U6];exact d),Vw,j];simp
theorem Bx.k2 (h:Bx W g (v0::v1::r)):W.cell? ⟨g,0,none⟩=some v0/\W.cell? ⟨g,1,none⟩=some v1:=⟨h.cell 0,h.cell 1⟩
theorem Bx.k3 (h:Bx W g (v0::v1::v2::r)):W.cell? ⟨g,0,none⟩=some v0/\W.cell? ⟨g,1,none⟩=some v1/\W.cell? ⟨g,2,none⟩=some v2:=⟨h.cell 0,h.cell 1,h.cell 2⟩
theorem Bx.k4 {v3:Value}(h:Bx W g (v0::v1::v2::v3::r)):W.cell? ⟨g,0,none⟩=some v0/\W.cell? ⟨g,1,none⟩=some v1/\W.cell? ⟨g,2,none⟩=some v2/\W.cell? ⟨g,3,none⟩=some v3:=⟨h.cell 0,h.cell 1,h.cell 2,h.cell 3⟩
theorem Bx.k6 {v3 v4 v5:Value}(h:Bx W g (v0::v1::v2::v3::v4::v5::r)):W.cell? ⟨g,0,none⟩=some v0/\W.cell? ⟨g,1,none⟩=some v1/\W.cell? ⟨g,2,none⟩=some v2/\W.cell? ⟨g,3,none⟩=some v3/\W.cell? ⟨g,4,none⟩=some v4/\W.cell? ⟨g,5,none⟩=some v5:=⟨h.cell 0,h.cell 1,h.cell 2,h.cell 3,h.cell 4,h.cell 5⟩
theorem Bx.f2 (h:Bx W g r):W.frozen? ⟨g,0,none⟩=false/\W.frozen? ⟨g,1,none⟩=false:=⟨h.frozen 0,h.frozen 1⟩
theorem Bx.f3 (h:Bx W g r):W.frozen? ⟨g,0,none⟩=false/\W.frozen? ⟨g,1,none⟩=false/\W.frozen? ⟨g,2,none⟩=false:=⟨h.frozen 0,h.frozen 1,h.frozen 2⟩
theorem Bx.f4 (h:Bx W g r):W.frozen? ⟨g,0,none⟩=false/\W.frozen? ⟨g,1,none⟩=false/\W.frozen? ⟨g,2,none⟩=false/\W.frozen? ⟨g,3,none⟩=false:=⟨h.frozen 0,h.frozen 1,h.frozen 2,h.frozen 3⟩
theorem Bx.f6 (h:Bx W g r):W.frozen? ⟨g,0,none⟩=false/\W.frozen? ⟨g,1,none⟩=false/\W.frozen? ⟨g,2,none⟩=false/\W.frozen? ⟨g,3,none⟩=false/\W.frozen? ⟨g,4,none⟩=false/\W.frozen? ⟨g,5,none⟩=false:=⟨h.frozen 0,h.frozen 1,h.frozen 2,h.frozen 3,h.frozen 4,h.frozen 5⟩
theorem Bx.other (h:Bx W g l)(p:Addr)(hp:p.block≠g)(v:Value):Bx (W.setCell p v) g l:=by
 obtain⟨t,h⟩:=h;exact⟨t,(J1 W p v g (fun e=>hp e.symm)).trans h⟩
theorem Bx.bl {W':World}{N:Nat}(h:Bx W g l)(hN:g<N)(hb:Below N W W'):Bx W' g l:=by
 obtain⟨t,h⟩:=h;exact⟨t,(hb.block g hN).trans h⟩
theorem Bx.alloc (h:Bx W g l)(o:Obj):Bx (W.alloc o) g l:=h.bl h.lt (Oo W o)
theorem Bx.drew (h:Bx W g l):Bx W.drew g l:=h.bl h.lt (Jj _ W).drew
theorem Ox (W:World)(l:List Value)(ty:TypeId):Bx (W.alloc (.cells l.toArray ty)) W.heap.size l:=⟨ty,Array.getElem?_push_size⟩
theorem EZ (B:Nat)(v:Value)(l:List Nat)(i:Nat)(w:World)(h:Kn B w v l)(_hi:i<=1000000) :
 Calls prog 233 #[v,.int .i64 (i:Nat)] w fun e w'=>e=.returned (.int .i64 (l.getD i 0:Nat))/\w'=w:=by
 obtain⟨p,c,rfl,_⟩:=id h;obtain⟨_,_,_,E,D⟩:=h.cells
 by_cases hl:i<l.length
 ·obtain⟨b,G,rfl,H,d⟩:=D i hl;have F:=Kk l E i hl;obtain⟨x,j⟩:=O2 (l.getD i 0);rw[j] at d F ⊢;clear j D h
  go_in
  go_wp2
  go_ret
  exact⟨rfl,rfl⟩
 have e:l.getD i 0=0:=by rw[Ji,Yv (by omega)];rfl
 rw[e];clear e D h
 go_in
 go_wp2
 go_ret
 exact⟨rfl,rfl⟩
theorem JV (n:Nat)(M:Nat)(h:n*n<M*M):n<M:=by
 rcases Nat.lt_or_ge n M with d|d
 ·exact d
 exact absurd h (Nat.not_lt.2 (Us d d))
structure LSt (x0 y0:Nat)(s:Bool)(p q r t x y:Nat):Prop where
 ex:x0=t*x+q*y
 ey:y0=r*x+p*y
 det:if s then p*t=q*r+1 else q*r=p*t+1
 low:if s then q<=x/\r<=y else p<=x/\t<=y
 bp:p<1000000000
 bq:q<1000000000
 br:r<1000000000
 bt:t<1000000000
 le:y<=x
 go:(s=true/\p=1/\q=0/\r=0/\t=1)∨(1<=r/\(if s then y+t+q<x else y+r+p<x))
theorem CN (x0 y0:Nat)(h:y0<=x0):LSt x0 y0 true 1 0 0 1 x0 y0:=
 ⟨by omega,by omega,by simp,by simp,by omega,by omega,by omega,by omega,h,.inl ⟨rfl,rfl,rfl,rfl,rfl⟩⟩
theorem Pg (m y x0:Nat)(h:m*y<=x0)(h1:m<=y)(hx:x0<1000000000000000000):m<1000000000:=by
 have d:m*m<=m*y:=Jz m h1;exact JV m 1000000000 (by omega)
theorem CG (x0 y0 p q r t x y k:Nat)(h:LSt x0 y0 true p q r t x y)(hx0:x0<1000000000000000000)(hle:y0<=x0)(hy:r<y)
 (k1:k*(y - r)<=x+p) (k2:x+p<k*(y - r)+(y - r)) (k3:k*(y+t)<=x - q) (k4:x - q<k*(y+t)+(y+t)) :
 k*y<=x/\LSt x0 y0 false r t (p+k*r) (q+k*t) y (x - k*y):=by
 obtain⟨ex,ey,det,low,bp,bq,br,bt,le,go⟩:=h;simp only[if_true] at det low go;obtain⟨U,G⟩:=low;have H:k*(y - r)+k*r=k*y:=by rw[<-Yi,Nat.sub_add_cancel G]
 have I:k*(y+t)=k*y+k*t:=Yi _ _ _;obtain⟨z,D⟩:∃ z,x=k*y+z:=⟨x - k*y,by omega⟩;have j:x - k*y=z:=by omega
 have f1:x0=(q+k*t)*y+t*z:=by rw[ex,D];grind
 have f2:y0=(p+k*r)*y+r*z:=by rw[ey,D];grind
 have J:q+k*t<=z:=by omega
 have K:z+(p+k*r)+r<y:=by omega
 have d:1<=p+k*r:=by
  rcases go with⟨_,T,_⟩|⟨F,O⟩
  ·omega
  have:1<=k:=by
   rcases Zx k with rfl|E
   ·simp at k4;omega
   exact E
  have:=Us this F;omega
 rw[j];refine⟨by omega,f1,f2,?_,?_,br,bt,?_,?_,by omega,.inr ⟨d,?_⟩⟩
 ·simp only[Yz,if_false];grind
 ·simp only[Yz,if_false];omega
 ·exact Pg (p+k*r) y y0 (by omega) (by omega) (by omega)
 ·exact Pg (q+k*t) y x0 (by omega) (by omega) (by omega)
 simp only[Yz,if_false];omega
theorem QY (x0 y0 p q r t x y k:Nat)(h:LSt x0 y0 false p q r t x y)(hx0:x0<1000000000000000000)(hle:y0<=x0)(hy:t<y)
 (k1:k*(y+r)<=x - p) (k2:x - p<k*(y+r)+(y+r)) (k3:k*(y - t)<=x+q) (k4:x+q<k*(y - t)+(y - t)) :
 k*y<=x/\LSt x0 y0 true r t (p+k*r) (q+k*t) y (x - k*y):=by
 obtain⟨ex,ey,det,low,bp,bq,br,bt,le,go⟩:=h;simp only[Yz,if_false] at det low go;obtain⟨T,G⟩:=low;have H:k*(y - t)+k*t=k*y:=by rw[<-Yi,Nat.sub_add_cancel G]
 have I:k*(y+r)=k*y+k*r:=Yi _ _ _;obtain⟨z,D⟩:∃ z,x=k*y+z:=⟨x - k*y,by omega⟩;have j:x - k*y=z:=by omega
 have f1:x0=(q+k*t)*y+t*z:=by rw[ex,D];grind
 have f2:y0=(p+k*r)*y+r*z:=by rw[ey,D];grind
 have J:p+k*r<=z:=by omega
 have K:z+(q+k*t)+t<y:=by omega
 have d:1<=p+k*r:=by
  rcases go with⟨h,_⟩|⟨F,O⟩
  ·cases h
  have:1<=k:=by
   rcases Zx k with rfl|E
   ·simp at k2;omega
   exact E
  have:=Us this F;omega
 rw[j];refine⟨by omega,f1,f2,?_,?_,br,bt,?_,?_,by omega,.inr ⟨d,?_⟩⟩
 ·simp only[if_true];grind
 ·simp only[if_true];omega
 ·exact Pg (p+k*r) y y0 (by omega) (by omega) (by omega)
 ·exact Pg (q+k*t) y x0 (by omega) (by omega) (by omega)
 simp only[if_true];omega
def VP (s:Bool)(n:Nat):Int:=if s then (n:Int) else -(n:Int)
def PK (A B C D:Int)(a b:Nat):Prop:=∃ a1 b1:Nat,A*a+B*b=a1/\C*a+D*b=b1/\Nat.gcd a1 b1=Nat.gcd a b/\b1<a1/\a1<=b
theorem DT (a b a1 b1 p q r t:Nat)(h1:a=t*a1+q*b1)(h2:b=r*a1+p*b1)(h3:Nat.gcd a b∣a1)(h4:Nat.gcd a b∣b1):Nat.gcd a1 b1=Nat.gcd a b:=by
 apply Nat.dvd_antisymm
 ·apply Nat.dvd_gcd
  ·rw[h1];exact Nat.dvd_add (Za (Nat.gcd_dvd_left _ _) _) (Za (Nat.gcd_dvd_right _ _) _)
  rw[h2];exact Nat.dvd_add (Za (Nat.gcd_dvd_left _ _) _) (Za (Nat.gcd_dvd_right _ _) _)
 exact Nat.dvd_gcd h3 h4
theorem KH (x0 y0 p q r t x y S a b a' b':Nat)(h:LSt x0 y0 true p q r t x y)(hg:1<=r/\y+t+q<x)(ha:a=x0*S+a')(hb:b=y0*S+b')(ha':a'<S)(hb':b'<S) :
 PK p (-q) (-r) t a b:=by
 obtain⟨ex,ey,det,low,bp,bq,br,bt,le,go⟩:=h;simp only[if_true] at det low;have G:p*x0=q*y0+x:=by rw[ex,ey];grind
 have H:t*y0=r*x0+y:=by rw[ex,ey];grind
 have O:p*a=q*(y0*S)+x*S+p*a':=by rw[ha,Yi,<-Y5,G];grind
 have T:q*b=q*(y0*S)+q*b':=by rw[hb];grind
 have U:t*b=r*(x0*S)+y*S+t*b':=by rw[hb,Yi,<-Y5,H];grind
 have V:r*a=r*(x0*S)+r*a':=by rw[ha];grind
 have m1:q*b'<=q*S:=Jz _ (by omega);have m2:r*a'<=r*S:=Jz _ (by omega);have m3:t*b'<=t*S:=Jz _ (by omega);have m4:(y+t+q+1)*S<=x*S:=Yc _ (by omega);have Y:r*S<=y*S:=Yc _ low.2;have Z:(y+t+q+1)*S=y*S+t*S+q*S+S:=by grind
 obtain⟨a1,d⟩:∃ a1,p*a=q*b+a1:=⟨x*S+p*a' - q*b',by omega⟩;obtain⟨b1,j⟩:∃ b1,t*b=r*a+b1:=⟨y*S+t*b' - r*a',by omega⟩;have I:(a:Int)=t*a1+q*b1:=by
  have F:(p:Int)*a=q*b+a1:=by exact_mod_cast d
  have z2:(t:Int)*b=r*a+b1:=by exact_mod_cast j
  have z3:(p:Int)*t=q*r+1:=by exact_mod_cast det
  grind
 have i2:(b:Int)=r*a1+p*b1:=by
  have F:(p:Int)*a=q*b+a1:=by exact_mod_cast d
  have z2:(t:Int)*b=r*a+b1:=by exact_mod_cast j
  have z3:(p:Int)*t=q*r+1:=by exact_mod_cast det
  grind
 have J:a=t*a1+q*b1:=by exact_mod_cast I
 have K:b=r*a1+p*b1:=by exact_mod_cast i2
 have D:=Nat.gcd_dvd_left a b;have E:=Nat.gcd_dvd_right a b;refine⟨a1,b1,?_,?_,DT a b a1 b1 p q r t J K ?_ ?_,by omega,?_⟩
 ·have F:(p:Int)*a=q*b+a1:=by exact_mod_cast d
  grind
 ·have z2:(t:Int)*b=r*a+b1:=by exact_mod_cast j
  grind
 ·exact (Nat.dvd_add_right (Za E q)).1 (d ▸ Za D p)
 ·exact (Nat.dvd_add_right (Za D r)).1 (j ▸ Za E t)
 have:=Yc a1 hg.1;omega
theorem YQ (x0 y0 p q r t x y S a b a' b':Nat)(h:LSt x0 y0 false p q r t x y)(hg:1<=r/\y+r+p<x)(ha:a=x0*S+a')(hb:b=y0*S+b')(ha':a'<S)(hb':b'<S) :
 PK (-p) q r (-t) a b:=by
 obtain⟨ex,ey,det,low,bp,bq,br,bt,le,go⟩:=h;simp only[Yz,if_false] at det low;have G:q*y0=p*x0+x:=by rw[ex,ey];grind
 have H:r*x0=t*y0+y:=by rw[ex,ey];grind
 have O:q*b=p*(x0*S)+x*S+q*b':=by rw[hb,Yi,<-Y5,G];grind
 have T:p*a=p*(x0*S)+p*a':=by rw[ha];grind
 have U:r*a=t*(y0*S)+y*S+r*a':=by rw[ha,Yi,<-Y5,H];grind
 have V:t*b=t*(y0*S)+t*b':=by rw[hb];grind
 have m1:p*a'<=p*S:=Jz _ (by omega);have m2:t*b'<=t*S:=Jz _ (by omega);have m3:r*a'<=r*S:=Jz _ (by omega);have m4:(y+r+p+1)*S<=x*S:=Yc _ (by omega);have Y:t*S<=y*S:=Yc _ low.2;have Z:(y+r+p+1)*S=y*S+r*S+p*S+S:=by grind
 obtain⟨a1,d⟩:∃ a1,q*b=p*a+a1:=⟨x*S+q*b' - p*a',by omega⟩;obtain⟨b1,j⟩:∃ b1,r*a=t*b+b1:=⟨y*S+r*a' - t*b',by omega⟩;have I:(a:Int)=t*a1+q*b1:=by
  have F:(q:Int)*b=p*a+a1:=by exact_mod_cast d
  have z2:(r:Int)*a=t*b+b1:=by exact_mod_cast j
  have z3:(q:Int)*r=p*t+1:=by exact_mod_cast det
  grind
 have i2:(b:Int)=r*a1+p*b1:=by
  have F:(q:Int)*b=p*a+a1:=by exact_mod_cast d
  have z2:(r:Int)*a=t*b+b1:=by exact_mod_cast j
  have z3:(q:Int)*r=p*t+1:=by exact_mod_cast det
  grind
 have J:a=t*a1+q*b1:=by exact_mod_cast I
 have K:b=r*a1+p*b1:=by exact_mod_cast i2
 have D:=Nat.gcd_dvd_left a b;have E:=Nat.gcd_dvd_right a b;refine⟨a1,b1,?_,?_,DT a b a1 b1 p q r t J K ?_ ?_,by omega,?_⟩
 ·have F:(q:Int)*b=p*a+a1:=by exact_mod_cast d
  grind
 ·have z2:(r:Int)*a=t*b+b1:=by exact_mod_cast j
  grind
 ·exact (Nat.dvd_add_right (Za D p)).1 (d ▸ Za E q)
 ·exact (Nat.dvd_add_right (Za E t)).1 (j ▸ Za D r)
 have:=Yc a1 hg.1;omega
def SO (x0 y0:Nat)(A B C D x y:Int):Prop:=∃ (s:Bool) (p q r t X Y:Nat),A=VP s p/\B = -VP s q/\C = -VP s r/\D=VP s t/\x=X/\y=Y/\LSt x0 y0 s p q r t X Y
theorem LO (x0 y0:Nat)(h:y0<=x0):SO x0 y0 1 0 0 1 x0 y0:=⟨true,1,0,0,1,x0,y0,rfl,rfl,rfl,rfl,rfl,rfl,CN x0 y0 h⟩
theorem TQ (x0 y0:Nat)(s:Bool)(p q r t x y:Nat)(h:LSt x0 y0 s p q r t x y)(hle:y0<=x0):x<=x0:=by
 obtain⟨ex,ey,det,-⟩:=h
 cases s
 ·simp only[Yz,if_false] at det;have:r≠0:=by rintro rfl;simp at det
  have:=Yc x (show 1<=r by omega);omega
 simp only[if_true] at det;have:t≠0:=by rintro rfl;simp at det
 have:=Yc x (show 1<=t by omega);omega
theorem Wi (x0 y0:Nat)(A B C D x y:Int)(h:SO x0 y0 A B C D x y)(hx0:x0<1000000000000000000)(hle:y0<=x0) :
 (-1000000000<A/\A<1000000000)/\(-1000000000<B/\B<1000000000)/\(-1000000000<C/\C<1000000000)/\(-1000000000<D/\D<1000000000) /\
 (0<=x/\x<1000000000000000000)/\(0<=y/\y<1000000000000000000)/\(0<=x+A/\0<=x+B)/\0<=y+C/\0<=y+D:=by
 obtain⟨s,p,q,r,t,X,Y,rfl,rfl,rfl,rfl,rfl,rfl,h⟩:=h;have d:=TQ _ _ _ _ _ _ _ _ _ h hle;obtain⟨ex,ey,det,low,bp,bq,br,bt,le,go⟩:=h
 cases s<;>simp only[VP,Yz,if_false,if_true] at*<;> omega
theorem D8 (a b k:Nat)(hb:0<b)(h:(a:Int) / (b:Int)=(k:Int)):k*b<=a/\a<k*b+b:=by
 have d:a / b=k:=by exact_mod_cast h
 subst d;have:=U0 a b;have:=Zy a hb;rw[Yy];omega
theorem LZ (x0 y0:Nat)(A B C D x y:Int)(h:SO x0 y0 A B C D x y)(hx0:x0<1000000000000000000)(hle:y0<=x0)(h1:0<y+C)(h2:0<y+D)(k:Int)
 (hk1:(x+A) / (y+C)=k) (hk2:(x+B) / (y+D)=k):SO x0 y0 C D (A - k*C) (B - k*D) y (x - k*y)/\0<=k/\(x - k*y)+(A - k*C)<y+C:=by
 obtain⟨b1,b2,O,T,U,V,J,Z⟩:=Wi x0 y0 A B C D x y h hx0 hle;have j:0<=k:=by rw[<-hk1];exact Of J.1 (by omega)
 have F:(x - k*y)+(A - k*C)<y+C:=by
  have e:=Int.emod_add_mul_ediv (x+A) (y+C);have l:=Int.emod_lt_of_pos (x+A) h1;rw[hk1] at e;have e2:(y+C)*k=k*y+k*C:=by grind
  omega
 refine⟨?_,j,F⟩;obtain⟨K,rfl⟩:=V5 j;obtain⟨s,p,q,r,t,X,Y,rfl,rfl,rfl,rfl,rfl,rfl,h⟩:=h;have low:=h.low
 cases s
 ·simp only[VP,Yz,if_false] at *;have H:((X - p:Nat):Int) / ((Y+r:Nat):Int)=K:=by rw[<-hk1];congr 1<;>omega
  have I:((X+q:Nat):Int) / ((Y - t:Nat):Int)=K:=by rw[<-hk2];congr 1<;>omega
  obtain⟨G,k2⟩:=D8 _ _ _ (by omega) H;obtain⟨k3,k4⟩:=D8 _ _ _ (by omega) I;obtain⟨d,E⟩:=QY x0 y0 p q r t X Y K h hx0 hle (by omega) G k2 k3 k4;refine⟨true,r,t,p+K*r,q+K*t,Y,X - K*Y,?_,?_,?_,?_,rfl,?_,E⟩
  ·simp[VP]
  ·simp[VP]
  ·simp only[VP,if_true];push_cast;grind
  ·simp only[VP,if_true];push_cast;grind
  rw[Int.ofNat_sub d];push_cast;rfl
 simp only[VP,if_true] at *;have H:((X+p:Nat):Int) / ((Y - r:Nat):Int)=K:=by rw[<-hk1];congr 1<;>omega
 have I:((X - q:Nat):Int) / ((Y+t:Nat):Int)=K:=by rw[<-hk2];congr 1<;>omega
 obtain⟨G,k2⟩:=D8 _ _ _ (by omega) H;obtain⟨k3,k4⟩:=D8 _ _ _ (by omega) I;obtain⟨d,E⟩:=CG x0 y0 p q r t X Y K h hx0 hle (by omega) G k2 k3 k4;refine⟨false,r,t,p+K*r,q+K*t,Y,X - K*Y,?_,?_,?_,?_,rfl,?_,E⟩
 ·simp[VP]
 ·simp[VP]
 ·simp only[VP,Yz,if_false];push_cast;grind
 ·simp only[VP,Yz,if_false];push_cast;grind
 rw[Int.ofNat_sub d];push_cast;rfl
theorem LY (x0 y0:Nat)(A B C D x y:Int)(S a b a' b':Nat)(h:SO x0 y0 A B C D x y)(hno:¬ (A=1/\B=0))(ha:a=x0*S+a')(hb:b=y0*S+b')(ha':a'<S)(hb':b'<S):PK A B C D a b:=by
 obtain⟨s,p,q,r,t,X,Y,rfl,rfl,rfl,rfl,rfl,rfl,h⟩:=h;have go:=h.go
 cases s
 ·simp only[VP,Yz,if_false] at *
  rcases go with⟨h,_⟩|d
  ·cases h
  have:=YQ x0 y0 p q r t X Y S a b a' b' h d ha hb ha' hb'
  simpa using this
 simp only[VP,if_true] at *
 rcases go with⟨_,rfl,rfl,_⟩|d
 ·exact absurd ⟨rfl,rfl⟩ hno
 exact KH x0 y0 p q r t X Y S a b a' b' h d ha hb ha' hb'
theorem LL (l:List Nat)(n:Nat)(hl:l.length<=n+3):val l=val (l.take n)+1000000000 ^ n*(l.getD n 0+1000000000*l.getD (n+1) 0+1000000000*1000000000*l.getD (n+2) 0):=by
 have e:val (l.take (n+3))=val l:=by rw[Jf hl]
 rw[<-e,Oz,Oz,Oz,Ju 1000000000 (n+1),Ju];generalize l.getD n 0=d;generalize l.getD (n+1) 0=j;generalize l.getD (n+2) 0=D;generalize val (l.take n)=V;generalize 1000000000 ^ n=P;clear e hl;generalize 1000000000=M
 grind
def Iq (l:List Nat)(n ten K:Nat):Nat:=(l.getD (n+2) 0*1000000000+l.getD (n+1) 0)*ten+l.getD n 0 / K
theorem Bf (l:List Nat)(ok:Kx l)(n:Nat)(hl:l.length<=n+3)(ten K:Nat)(hK:ten*K=1000000000) :
 ∃ a',val l=Iq l n ten K*(1000000000 ^ n*K)+a'/\a'<1000000000 ^ n*K:=by
 have j:0<K:=by rcases Zx K with rfl|h<;>omega
 have e:=LL l n hl;have H:val (l.take n)<1000000000 ^ n:=by
  have D:=G4 _ (B0 l ok n);have E:(l.take n).length<=n:=by rw[Jm];omega
  exact Js D (J3 (by omega) E)
 have G:=U0 (l.getD n 0) K;have hm:=Zy (l.getD n 0) j;unfold Iq;generalize l.getD n 0=F at *;generalize l.getD (n+1) 0=I at *;generalize l.getD (n+2) 0=J at *;generalize val (l.take n)=V at *;generalize 1000000000 ^ n=P at *;generalize F / K=d at *;generalize F % K=m at *;refine⟨V+P*m,?_,?_⟩
 ·rw[e,<-G];generalize 1000000000=M at *;subst hK
  grind
 have D:P*(m+1)<=P*K:=Jz _ hm;have E:P*(m+1)=P*m+P:=by grind
 omega
theorem BO (l:List Nat)(ok:Kx l)(n ten K:Nat)(hK:ten*K=1000000000)(h2:l.getD (n+2) 0<K):Iq l n ten K<1000000000000000000:=by
 have G:0<K:=by omega
 have E:∀ i,l.getD i 0<1000000000:=fun i=>by
  rw[Ji]
  rcases Nat.lt_or_ge i l.length with h|h
  ·rw[Jl h];exact ok _ (Yl h)
  rw[Yv h];decide
 have O:=E (n+1);have F:=E n;have T:l.getD n 0 / K<ten:=Nat.div_lt_of_lt_mul (by rw[Yy,hK];exact F);unfold Iq;generalize l.getD n 0 / K=d at *;generalize l.getD (n+1) 0=j at *;generalize l.getD (n+2) 0=D at *;have H:(D*1000000000+j)*ten+ten=(D*1000000000+j+1)*ten:=by rw[Zq _ 1,Z8]
 have I:(D*1000000000+j+1)*ten<=(K*1000000000)*ten:=Yc _ (by omega);have J:(K*1000000000)*ten=1000000000000000000:=by rw[Nat.mul_right_comm,Yy K,hK]
 omega
theorem Ts (x y S a b a' b':Nat)(ha:a=x*S+a')(hb:b=y*S+b')(ha':a'<S)(hle:b<=a):y<=x:=by
 rcases Nat.lt_or_ge x y with h|h
 ·have:=Yc S h;rw[Nat.succ_mul] at this;omega
 exact h
open RowKit Shelf Proofs.Tryz
attribute [local go_sem] Oper.semAt_some
def BE (n:Nat):Int:=IntKind.u64.wrap (n:Int)
theorem UU (n:Int):IntKind.u64.wrap n=n % 18446744073709551616:=rfl
theorem CH (q y:Nat):IntKind.u64.wrap (IntKind.u64.wrap (BE q*1000000000)+y)=BE (q*1000000000+y):=by
 unfold BE;simp only[UU];omega
theorem CI:BE 0=0:=rfl
theorem Sw (n:Nat)(h:n<18446744073709551616):BE n=(n:Int):=by
 unfold BE;rw[UU];omega
def RI:List Lb->Int:=List.foldl (fun s x=>IntKind.u64.wrap (IntKind.u64.wrap (s*1000000000)+(x.1.2:Nat))) 0
theorem Tz (pre:List Lb)(x:Lb):RI (pre++[x])=IntKind.u64.wrap (IntKind.u64.wrap (RI pre*1000000000)+(x.1.2:Nat)):=by simp[RI]
theorem RX (l:List Nat)(h:Kx l)(k:Nat)(hk:k<=l.length):RI (R5 (bk l h) k)=BE (Ea l (l.length - k)):=by
 induction k with
 | zero=>simp[R5,RI,Ff,CI]
 | succ k ih=>
   rw[Fc,Tz,ih (by omega)];have d:l.length - k=l.length - (k+1)+1:=by omega
   have j:(bk l h k).1.2=l.getD (l.length - (k+1)) 0:=by simp only[bk];rw[show l.length - 1 - k=l.length - (k+1) by omega]
   rw[j,d,CH,Xk l (l.length - (k+1)) (by omega)]
theorem RJ (F:Fence)(n:Nat)(hf:F.fn 212)(hf1:F.fn 218)(hf2:F.fn 235)(hro:F.round=none)(hn:3<=n)(B:Nat)(v:Value)(l:List Nat)(w:World)(hI:Kn B w v l) :
 CallsIn F n prog 212 #[v] w fun e W'=>e=.returned (.int .u64 (BE (val l)))/\Up w W':=by
 have V:1<=n:=by omega
 obtain⟨a,cap,rfl,hl,E,G,hr⟩:=hI;refine callsIn_of_wp_marks func212 rfl hf ?_ hro;simp only[ntmps212,Vh,J8,Zo,Nat.reduceAdd,Nat.reduceSub,Ue,Uf,U7,Ul,Zv,Yf]
 gi_wp2_with (gi_at_call 218;refine (NM F (n - 1) hf1 hro _ _ _ _).mono ?_;rintro e w' ⟨rfl,rfl⟩)
 have T:=Boxed.new w 32 (.int .u64 0);have O:=Boxed.new (w.alloc (.cells #[.int .u64 0] 32)) 70 (.slice a l.length cap);rw[J4] at O;have d:Up w ((w.alloc (.cells #[.int .u64 0] 32)).alloc (.cells #[.slice a l.length cap] 70)):=((Jj _ w).alloc O1 _).alloc (by simp) _;have J:l=[]∨∃ b off,a=some ⟨b,off,none⟩/\b<w.heap.size/\∀ i,i<l.length->((w.alloc (.cells #[.int .u64 0] 32)).alloc (.cells #[.slice a l.length cap] 70)).cell? ⟨b,off+i,none⟩=some (.int .u32 (l.getD i 0:Nat)):=by
  rcases hr with h|⟨b,off,e,_,U,j⟩
  ·exact .inl h
  exact .inr ⟨b,off,e,U,fun i hi=>(d.cell (p:=⟨b,off+i,none⟩) U).trans (j i hi)⟩
 refine wpIn_rangeFunc_ownG hro V (gf:=235) (lb:=#[.pointer (some ⟨w.heap.size+1,0,none⟩)]) rfl hf2 (enters_of func235 (by kernel_rfl) rfl)
  (Mn F (n - 1) hf2 hro (by omega) (w.heap.size+1) w.heap.size _ l G _ (by simp) (by simp;omega) O.cell
    ⟨a,cap,rfl,hl,E,J⟩)
  AT (WN (by simp;omega) (by simp)) (Jj _ _) (fun _=>rfl)
  (fun pre W=>(W.cell? ⟨w.heap.size,0,none⟩=some (.int .u64 (RI pre))/\W.frozen? ⟨w.heap.size,0,none⟩=false)/\Up w W)
  (fun _ _ _=>False)
  (OwnFrom.and (Own.from (fun s A B row hs hg hr=>⟨cell_kept hs.1 hg hr,(frozen_kept hs.1 hg hr).trans hs.2⟩) _) (ownFrom_below O1 (by simp;omega)))
  (fun _ _ _ _ _ hs _ _=>hs)
  ⟨⟨(T.alloc _).cell,(T.alloc _).frozen⟩,d⟩
  (fun x=>{ tmps:=#[.slice a l.length cap,undef,.int .u64 0,.pointer (some ⟨w.heap.size,0,none⟩),undef,.int .u32 (x.1.2:Nat),.slice a l.length cap,.func (.func 235) #[] #[.pointer (some ⟨w.heap.size+1,0,none⟩)],.int .i64 x.1.1,.int .u32 (x.1.2:Nat),undef,undef,undef,undef,undef,undef],defers:=[] }) ?assign ?body ?done ?stop
 case assign=>
  intro Z x W K H
  gi_wp2
  exact H
 case body=>
  rintro Z pre x W ⟨⟨j,hf⟩,I⟩ _;have hx:=x.2
  gi_wp2
  exact⟨(KeepsOthers.setCell _ _ _).from _,⟨(Jj w.heap.size W).sc,Zg (J1 W ⟨w.heap.size,0,none⟩ _ (w.heap.size+1) (Nat.succ_ne_self _))⟩,
   ⟨by rw[Tz];exact World.cell?_setCell_same' _ _ _ (by rw[j];rfl),by rw[World.frozen?_setCell];exact hf⟩,I.sc⟩
 case done=>
  rintro D ys W Y rfl ⟨⟨j,_⟩,I⟩ H;rw[RX l G l.length O1,V9] at j
  gi_wp2
  refine⟨by simp,.inl ⟨_,_,rfl,run_takeDeferred H,?_⟩⟩;exact⟨_,results_tmp rfl _ _ _,rfl,I.trans (belowK_b (w:=w) O1 W D _ _ (by simp at Y;omega) H rfl rfl)⟩
 rintro D c pre W _ _ h _;exact h.elim
theorem Ar (B:Nat)(v:Value)(l:List Nat)(w:World)(h:Kn B w v l) :
 Calls prog 212 #[v] w fun e w'=>e=.returned (.int .u64 (BE (val l)))/\Up w w':=
 (callsIn_wide (n:=3)).1 (RJ Fence.wide 3 trivial trivial trivial rfl O1 B v l w h)
theorem Ez (x:Int)(h1 : -9223372036854775808<=x)(h2:x<9223372036854775808):IntKind.i64.wrap x=x:=by
 have e:IntKind.i64.wrap x=if x % 18446744073709551616≥9223372036854775808 then x % 18446744073709551616 - 18446744073709551616 else x % 18446744073709551616:=by
  unfold IntKind.wrap;simp[IntKind.bits,IntKind.signed]
 rw[e]
 split<;>omega
theorem Qk (t:List Nat)(h:Kx t)(i:Nat):t.getD i 0<1000000000:=by
 by_cases d:i<t.length
 ·exact Kk t h i d
 rw[Ji,Yv (by omega)];decide
theorem Pe (B:Nat)(v:Value)(l:List Nat)(i:Int)(k:Nat)(X:Int)(w:World)(h:Kn B w v l)(hi:i=(k:Int))(hk:k<=1000000)(hX:((l.getD k 0:Nat):Int)=X) :
 Calls prog 233 #[v,.int .i64 i] w fun e w'=>e=.returned (.int .i64 X)/\w'=w:=by
 subst hi hX;exact EZ B v l k w h hk
theorem Lp (B:Nat)(v:Value)(l:List Nat)(n ten K:Nat)(w:World)(h:Kn B w v l)(hn:n<=100000)(hK:ten*K=1000000000)(hlt:Iq l n ten K<1000000000000000000) :
 Calls prog 232 #[v,.int .i64 (n+1:Nat),.int .i64 (ten:Nat)] w fun e w'=>e=.returned (.int .i64 (Iq l n ten K:Nat))/\Up w w':=by
 have U:=Hd h;obtain⟨p,c,rfl,_,_,D,_⟩:=h;obtain⟨d,Z⟩:∃ X:Int,((l.getD n 0:Nat):Int)=X:=⟨_,rfl⟩;obtain⟨I,h1⟩:∃ X:Int,((l.getD (n+1) 0:Nat):Int)=X:=⟨_,rfl⟩;obtain⟨J,h2⟩:∃ X:Int,((l.getD (n+2) 0:Nat):Int)=X:=⟨_,rfl⟩;have H0:=Hd Z;have H1:=Hd h1;have H2:=Hd h2;have b0:=Qk l D n;have b1:=Qk l D (n+1);have b2:=Qk l D (n+2);obtain⟨T,O⟩:∃ T:Int,(ten:Int)=T:=⟨_,rfl⟩;obtain⟨M,hM⟩:∃ M:Int,(K:Int)=M:=⟨_,rfl⟩;have F:T*M=1000000000:=by rw[<-O,<-hM,<-Z9,hK];rfl
 have b4:1<=T:=by
  have:ten≠0:=by rintro rfl;omega
  omega
 have b3:1<=M:=by
  have:K≠0:=by rintro rfl;omega
  omega
 obtain⟨W,hW⟩:∃ W:Int,J*1000000000+I=W:=⟨_,rfl⟩;have j:((Iq l n ten K:Nat):Int)=W*T+d / M:=by
  unfold Iq;rw[Og,Z9,Og,Z9,Int.natCast_ediv,Z,h1,h2,O,hM,<-hW];rfl
 have G:0<=d:=by omega
 have d4:0<=d / M:=Of G (by omega);have b6:0<=W:=by omega
 have b9:0<=W*T:=Int.mul_nonneg b6 (by omega);have d3:W*T<1000000000000000000:=by omega
 have d5:d / M<1000000000000000000:=by omega
 have V:=Hd j;have c0:0<=d/\d<1000000000:=by omega
 have c1:0<=I/\I<1000000000:=by omega
 have c2:0<=J/\J<1000000000:=by omega
 have HW:=Hd hW;have Y:=Hd hn;have d1:M<=1000000000:=by
  have:=Uo b4 (show 0<=M by omega);omega
 have d2:T<=1000000000:=by
  have:=Ut b3 (show 0<=T by omega);omega
 have H:Int.tdiv 1000000000 T=M:=by
  rw[Ub (by decide),<-F];exact Int.mul_ediv_cancel_left _ (by omega)
 have E:Int.tdiv d M=d / M:=Ub G;rw[O];clear Z h1 h2 O hM hK hlt j hW b0 b1 b2 D F
 go_in
 go_wp2_with fail
 refine (Pe B _ l _ (n+2) J _ U.o (by push_cast;omega) (by have:=Y.o;omega) H2.o).mono ?_;rintro e w' ⟨rfl,b7⟩;subst b7
 go_wp2_with fail
 refine (Pe B _ l _ (n+1) I _ U.o (by omega) (by have:=Y.o;omega) H1.o).mono ?_;rintro e w2 ⟨rfl,b8⟩;subst b8
 go_upto_region 2 with fail
 rw[HW.o];have q1:IntKind.i64.wrap (W*T)=W*T:=Ez _ (by omega) (by omega);have q2:IntKind.i64.wrap (n:Int)=(n:Int):=Ez _ (by omega) (by omega);have q3:(T==0)=false:=by rw[Jd];omega
 have q4:(M==0)=false:=by rw[Jd];omega
 have q5:IntKind.i64.wrap (Int.tdiv 1000000000 T)=M:=by rw[H];exact Ez _ (by omega) (by omega)
 have q6:IntKind.i64.wrap (d.tdiv M)=d / M:=by rw[E];exact Ez _ (by omega) (by omega)
 have q7:IntKind.i64.wrap (W*T+d / M)=W*T+d / M:=Ez _ (by omega) (by omega)
 go_quiet (first|(go_at_call 233;refine Calls.quiet_of_same (Pe B _ l _ n d _ U.o rfl (by have:=Y.o;omega) H0.o)))
 go_wp2
 go_ret
 exact⟨Kw V.o.symm,below_drewN (Jj _ _) _⟩
theorem Rc (B:Nat)(v:Value)(l:List Nat)(n ten K:Nat)(i T:Int)(w:World)(h:Kn B w v l)(hi:i=((n+1:Nat):Int))(hT:T=((ten:Nat):Int))(hn:n<=100000)(hK:ten*K=1000000000)(hlt:Iq l n ten K<1000000000000000000) :
 Calls prog 232 #[v,.int .i64 i,.int .i64 T] w fun e w'=>e=.returned (.int .i64 (Iq l n ten K:Nat))/\Up w w':=by
 subst hi hT;exact Lp B v l n ten K w h hn hK hlt
def UX (a b x y:Nat):Prop:=∃ S a' b',a=x*S+a'/\b=y*S+b'/\a'<S/\b'<S/\x<1000000000000000000/\y<=x
theorem BY (a b:List Nat)(n ten K:Nat)(oa:Kx a)(ob:Kx b)(hla:a.length=n+3)(hlb:b.length<=n+3)(hK:ten*K=1000000000)(ht:a.getD (n+2) 0<K)(hle:val b<=val a) :
 UX (val a) (val b) (Iq a n ten K) (Iq b n ten K):=by
 obtain⟨D,ha,d⟩:=Bf a oa n (by omega) ten K hK;obtain⟨E,F,j⟩:=Bf b ob n hlb ten K hK;exact⟨_,D,E,ha,F,d,j,BO a oa n ten K hK ht,Ts _ _ _ _ _ D E ha F d hle⟩
theorem Mz (k:Nat)(hk:k<=8):10 ^ k*10 ^ (9 - k)=1000000000:=by
 rw[<-Nat.pow_add,show k+(9 - k)=9 by omega]
theorem BM (k:Nat)(hk:k<=8):1<=10 ^ k/\10 ^ k<=100000000:=⟨Ua (by decide),by
 have:=J3 (show 0<10 by decide) hk
 exact this⟩
theorem TW (X k:Nat)(hk:k<=8)(h:X*10 ^ k<1000000000):X<10 ^ (9 - k):=by
 apply Classical.byContradiction;intro hn;have d:10 ^ (9 - k)*10 ^ k<=X*10 ^ k:=Yc _ (by omega);rw[Yy,Mz k hk] at d;omega
theorem Fv (B:Nat)(va vb:Value)(a b:List Nat)(n:Nat)(w:World)(ha:Kn B w va a)(hb:Kn B w vb b)(hn:n<=100000)(hla:a.length=n+3)(hlb:b.length<=n+3)(hta:1<=a.getD (n+2) 0)(hle:val b<=val a) :
 Calls prog 209 #[va,vb] w fun e w'=>∃ x y:Nat,e=.returned (.tuple #[.int .i64 (x:Nat),.int .i64 (y:Nat)])/\UX (val a) (val b) x y/\Up w w':=by
 have HA:Hid (∀ W,Up w W->Kn B W va a):=fun W hW=>ha.bl hW;have HB:Hid (∀ W,Up w W->Kn B W vb b):=fun W hW=>hb.bl hW;obtain⟨pa,ca,rfl,_⟩:=id ha;obtain⟨pb,cb,rfl,_⟩:=id hb;obtain⟨_,_,_,D,Z⟩:=ha.cells;obtain⟨_,_,_,Y,_⟩:=hb.cells;obtain⟨ba,oa,rfl,c7,d⟩:=Z (n+2) (by omega);have K:Hid (∀ k,k<=8->a.getD (n+2) 0*10 ^ k<1000000000->UX (val a) (val b) (Iq a n (10 ^ k) (10 ^ (9 - k))) (Iq b n (10 ^ k) (10 ^ (9 - k)))):=fun k hk h=>
  BY a b n _ _ D Y hla hlb (Mz k hk) (TW _ k hk h) hle
 have c8:=Qk a D (n+2);obtain⟨x,hx⟩:=O2 (a.getD (n+2) 0);rw[hx] at d c8 hta K;have HC:Hid (∀ W,Up w W->W.cell? ⟨ba,oa+(n+2),none⟩=some (.int .u32 (x:Nat))):=fun W hW=>(hW.cell (p:=⟨ba,oa+(n+2),none⟩) c7).trans d;have b5:=Hd hla;rw[hla];clear Z d ha hb hle hla hx hlb
 go_in
 go_wp2
 go_loopw [7] (fun tv wr=>∃ k:Nat,k<=8/\tv=.int .i64 ((10 ^ k:Nat):Int)/\x*10 ^ k<1000000000/\Up w wr) (fun tv _=>(1000000000 - intOf tv).toNat)
 case atStart=>exact⟨0,by omega,rfl,by omega,Jj _ _⟩
 obtain⟨k,hk,rfl,a6,hB⟩:=hrel;have d:=HC.o _ hB;have hp:=BM k hk;have b6:Hid (x*10 ^ k*10<1000000000->k+1<=8):=fun h=>by
  apply Classical.byContradiction;intro hn;obtain rfl:k=8:=by omega
  simp only[Nat.reducePow] at h;omega
 have b7:Hid (((10 ^ k:Nat):Int)*10=((10 ^ (k+1):Nat):Int)):=by
  unfold Hid
  rw[Ju,Z9];rfl
 have b8:Hid (x*10 ^ (k+1)=x*10 ^ k*10):=by unfold Hid;rw[Ju,Y5]
 have j:=Hd hB;have J:=Hd (K.o k hk a6);have I:=Hd hk;obtain⟨T,hT⟩:∃ T:Int,((10 ^ k:Nat):Int)=T:=⟨_,rfl⟩;have HT:=Hd hT;have t1:1<=T:=by omega
 have t2:T<=100000000:=by omega
 obtain⟨X,hX⟩:∃ X:Int,(x:Int)=X:=⟨_,rfl⟩;have HX:=Hd hX;have U:((x*10 ^ k:Nat):Int)=X*T:=by rw[<-hX,<-hT];exact Z9 _ _
 have O:=Hd U;have x1:0<=X*T:=by omega
 have x2:X*T<1000000000:=by omega
 have x3:0<=X/\X<1000000000:=by omega
 rw[hX] at d;rw[hT];clear hT hX U hp a6 hB
 by_cases hc:X*T*10<1000000000
 ·have hd:decide (X*T*10<1000000000)=true:=Jn hc
  go_wp2
  go_roundw
  case rel=>
   have e1:k+1<=8:=b6.o (by have:=O.o;omega);refine⟨k+1,e1,?_,?_,j.o⟩
   ·rw[<-b7.o,HT.o]
   rw[b8.o];have:=O.o;omega
  simp[intOf];omega
 have hd:decide (X*T*10<1000000000)=false:=Jp hc;have HD:Hid (Iq a n (10 ^ k) (10 ^ (9 - k))<1000000000000000000/\Iq b n (10 ^ k) (10 ^ (9 - k))<1000000000000000000):=by
  obtain⟨_,_,_,_,_,_,_,h1,h2⟩:=J.o;exact⟨h1,by omega⟩
 have G:=Hd (HA.o _ j.o);have b4:=Hd (HB.o _ j.o);rw[b5.o] at G
 go_wp2_with fail
 refine (Rc B _ a n (10 ^ k) (10 ^ (9 - k)) _ _ _ G.o (by omega) HT.o.symm hn (Mz k I.o) HD.o.1).mono ?_;rintro e w2 ⟨rfl,E⟩;have H:=Hd (b4.o.bl E);have F:=Hd (j.o.trans (E.mono j.o.size));clear E
 go_wp2_with fail
 refine (Rc B _ b n (10 ^ k) (10 ^ (9 - k)) _ _ _ H.o (by omega) HT.o.symm hn (Mz k I.o) HD.o.2).mono ?_;rintro e w3 ⟨rfl,V⟩;have b3:=Hd (F.o.trans (V.mono F.o.size));clear V
 go_wp2
 go_ret2
 exact⟨_,_,rfl,J.o,b3.o⟩
def NS (w:World):Prop:=
 w.cell? ⟨2,0,none⟩=some (.int .i64 1)/\w.cell? ⟨2,1,none⟩=some (.int .i64 0)/\w.cell? ⟨2,2,none⟩=some (.int .i64 0)/\w.cell? ⟨2,3,none⟩=some (.int .i64 1)
theorem NS.bl {w w':World}(h:NS w)(hb:Up w w'):NS w':=by
 have d:=Da h.1;unfold NS at *;simp only[fun o=>hb.cell (p:=⟨2,o,none⟩) d];exact h
def oG (x0 y0:Nat)(A B C D:Int):Prop:=∃ x y,SO x0 y0 A B C D x y
theorem Fz (x0 y0:Nat)(w:World)(hx0:x0<1000000000000000000)(hle:y0<=x0)(h:NS w) :
 Calls prog 208 #[.int .i64 (x0:Nat),.int .i64 (y0:Nat)] w fun e w'=>∃ A B C D:Int,e=.returned (.agg #[.int .i64 A,.int .i64 B,.int .i64 C,.int .i64 D])/\oG x0 y0 A B C D/\Up w w':=by
 have i1:=Da h.1;obtain⟨n0,n1,n2,n3⟩:=h
 go_in
 go_wp2
 have a7:Up w ((w.alloc (.cells #[.int .i64 0,.int .i64 0,.int .i64 0,.int .i64 0] 215)).alloc (.cells #[.int .i64 1,.int .i64 0,.int .i64 0,.int .i64 1] 215)):=((Jj _ w).alloc O1 _).alloc (by simp) _;have b6:Bx ((w.alloc (.cells #[.int .i64 0,.int .i64 0,.int .i64 0,.int .i64 0] 215)).alloc (.cells #[.int .i64 1,.int .i64 0,.int .i64 0,.int .i64 1] 215)) w.heap.size [.int .i64 0,.int .i64 0,.int .i64 0,.int .i64 0]:=(Ox w _ _).alloc _;have b7:Bx ((w.alloc (.cells #[.int .i64 0,.int .i64 0,.int .i64 0,.int .i64 0] 215)).alloc (.cells #[.int .i64 1,.int .i64 0,.int .i64 0,.int .i64 1] 215)) (w.heap.size+1) [.int .i64 1,.int .i64 0,.int .i64 0,.int .i64 1]:=by
  have:=Ox (w.alloc (.cells #[.int .i64 0,.int .i64 0,.int .i64 0,.int .i64 0] 215)) [.int .i64 1,.int .i64 0,.int .i64 0,.int .i64 1] 215;rw[J4] at this;exact this
 generalize (w.alloc (.cells #[.int .i64 0,.int .i64 0,.int .i64 0,.int .i64 0] 215)).alloc (.cells #[.int .i64 1,.int .i64 0,.int .i64 0,.int .i64 1] 215)=W0 at *
 go_loopw [0,1] (fun xv yv wr=>∃ A B C D x y:Int,xv=.int .i64 x/\yv=.int .i64 y/\SO x0 y0 A B C D x y/\Bx wr w.heap.size [.int .i64 0,.int .i64 0,.int .i64 0,.int .i64 0]/\Bx wr (w.heap.size+1) [.int .i64 A,.int .i64 B,.int .i64 C,.int .i64 D]/\Up w wr)
  (fun _ yv wr=>(intOf yv+intOf ((wr.cell? ⟨w.heap.size+1,2,none⟩).getD (.int .i64 0))).toNat)
 case atStart=>exact⟨1,0,0,1,x0,y0,rfl,rfl,LO x0 y0 hle,b6,b7,a7⟩
 clear b6 b7 a7 n0 n1 n2 n3;obtain⟨A,B,C,D,x,y,rfl,rfl,hS,hX,G,hB⟩:=hrel;obtain⟨⟨a1,a2⟩,⟨b1,b2⟩,⟨c1,c2⟩,⟨d1,d2⟩,⟨x1,x2⟩,⟨y1,y2⟩,⟨p1,p2⟩,p3,p4⟩:=Wi x0 y0 A B C D x y hS hx0 hle;obtain⟨e0,e1,e2,e3⟩:=G.k4;have HS:=Hd hS;have d:=Hd hX;have O:=Hd G;have E:=Hd hB;clear hS hX G hB;have w1:IntKind.i64.wrap (y+C)=y+C:=Ez _ (by omega) (by omega);have w2:IntKind.i64.wrap (y+D)=y+D:=Ez _ (by omega) (by omega);have w3:IntKind.i64.wrap (x+A)=x+A:=Ez _ (by omega) (by omega);have w4:IntKind.i64.wrap (x+B)=x+B:=Ez _ (by omega) (by omega)
 by_cases hg:0<y+C/\0<y+D
 ·obtain⟨g1,g2⟩:=hg;obtain⟨k,hk⟩:=O2 ((x+A) / (y+C));obtain⟨m,hm⟩:=O2 ((x+B) / (y+D));have w5:IntKind.i64.wrap ((x+A).tdiv (y+C))=k:=by
   have h0:0<=k:=by rw[<-hk];exact Of p1 (by omega)
   have h1:k<=x+A:=by rw[<-hk];exact Int.ediv_le_self _ p1
   rw[Ub p1,hk];exact Ez _ (by omega) (by omega)
  have w6:IntKind.i64.wrap ((x+B).tdiv (y+D))=m:=by
   have h0:0<=m:=by rw[<-hm];exact Of p2 (by omega)
   have h1:m<=x+B:=by rw[<-hm];exact Int.ediv_le_self _ p2
   rw[Ub p2,hm];exact Ez _ (by omega) (by omega)
  have z1:(y+C==0)=false:=by rw[Jd];omega
  have z2:(y+D==0)=false:=by rw[Jd];omega
  by_cases c6:k=m
  ·subst c6;obtain⟨F,h9,j⟩:=LZ x0 y0 A B C D x y HS.o hx0 hle g1 g2 k hk hm;obtain⟨C',T⟩:=O2 (A - k*C);obtain⟨D',a8⟩:=O2 (B - k*D);obtain⟨y',Y⟩:=O2 (x - k*y);rw[T,a8,Y] at F;rw[T,Y] at j;obtain⟨_,_,⟨g7,g8⟩,⟨g9,h2⟩,_,⟨j6,j7⟩,_⟩:=Wi x0 y0 _ _ _ _ _ _ F hx0 hle;have w7:IntKind.i64.wrap (k*C)=k*C:=Ez _ (by omega) (by omega);have w8:IntKind.i64.wrap (k*D)=k*D:=Ez _ (by omega) (by omega);have w9:IntKind.i64.wrap (A - k*C)=C':=by rw[T];exact Ez _ (by omega) (by omega)
   have j3:IntKind.i64.wrap (B - k*D)=D':=by rw[a8];exact Ez _ (by omega) (by omega)
   have j4:IntKind.i64.wrap (k*y)=k*y:=Ez _ (by omega) (by omega);have j5:IntKind.i64.wrap (x - k*y)=y':=by rw[Y];exact Ez _ (by omega) (by omega)
   have d8:=Hd F;have d6:=Hd j;clear F j hk hm
   go_wp2
   have hN:=O.o.lt;obtain⟨N,U⟩:=O2 wr.heap.size;have V:=Ox wr [.int .i64 0,.int .i64 0] 213;have c7:=O.o.alloc (.cells #[.int .i64 0,.int .i64 0] 213);have c8:=d.o.alloc (.cells #[.int .i64 0,.int .i64 0] 213);have d0:=E.o.alloc E.o.size (.cells #[.int .i64 0,.int .i64 0] 213);rw[U] at V hN;rw[U];have H:Bx (wr.alloc (.cells #[.int .i64 0,.int .i64 0] 213)) N [.int .i64 0,.int .i64 0]:=V;have d7:=Hd e2;clear V U e0 e1 e2 e3;generalize wr.alloc (.cells #[.int .i64 0,.int .i64 0] 213)=W1 at *;clear d O E
   go_loopw [48] (fun iv wr=>∃ i u v:Int,iv=.int .i64 i/\((i=0/\u=0/\v=0)∨(i=1/\u=C'/\v=0)∨(i=2/\u=C'/\v=D'))/\Bx wr N [.int .i64 u,.int .i64 v]/\Bx wr (w.heap.size+1) [.int .i64 A,.int .i64 B,.int .i64 C,.int .i64 D]/\Bx wr w.heap.size [.int .i64 0,.int .i64 0,.int .i64 0,.int .i64 0]/\Up w wr)
    (fun iv _=>(2 - intOf iv).toNat)
   case atStart=>exact⟨0,0,0,rfl,.inl ⟨rfl,rfl,rfl⟩,H,c7,c8,d0⟩
   clear H c7 c8 d0;obtain⟨i,u,v,rfl,b8,hn,G,hX,hB⟩:=hrel;obtain⟨e0,e1,e2,e3⟩:=G.k4;obtain⟨f0,f1⟩:=hn.k2;obtain⟨r0,r1⟩:=hn.f2;obtain⟨t0,t1,t2,t3⟩:=G.f4;have i6:=hn.lt;have i7:=G.lt;have HN:=Hd hn;have d:=Hd hX;have O:=Hd G;have E:=Hd hB;clear hn hX G hB
   rcases b8 with⟨rfl,rfl,rfl⟩|⟨rfl,rfl,rfl⟩|⟨rfl,rfl,rfl⟩
   ·go_wp2
    go_region
    go_wp2
    go_roundw
    case rel=>exact⟨1,_,_,by go_num,.inr (.inl ⟨rfl,rfl,rfl⟩),(HN.o.set 0 _).drew,(O.o.other _ (by show N≠_;omega) _).drew,(d.o.other _ (by show N≠_;omega) _).drew,(E.o.setCell (p:=⟨N,0,none⟩) (by show _<=N;omega) _).drew⟩
    simp[intOf]
   ·go_wp2
    go_region
    go_wp2
    go_roundw
    case rel=>exact⟨2,_,_,by go_num,.inr (.inr ⟨rfl,rfl,rfl⟩),(HN.o.set 1 _).drew,(O.o.other _ (by show N≠_;omega) _).drew,(d.o.other _ (by show N≠_;omega) _).drew,(E.o.setCell (p:=⟨N,1,none⟩) (by show _<=N;omega) _).drew⟩
    simp[intOf]
   go_wp2
   go_region
   go_wp2
   have Z:Hid (Bx (((((wr.setCell ⟨w.heap.size+1,0,none⟩ (.int .i64 C)).setCell ⟨w.heap.size+1,1,none⟩ (.int .i64 D)).setCell ⟨w.heap.size+1,2,none⟩ (.int .i64 u)).setCell ⟨w.heap.size+1,3,none⟩ (.int .i64 v)).drew) (w.heap.size+1) [.int .i64 C,.int .i64 D,.int .i64 u,.int .i64 v]):=
    ((((O.o.set 0 _).set 1 _).set 2 _).set 3 _).drew
   have d9:Hid (Bx (((((wr.setCell ⟨w.heap.size+1,0,none⟩ (.int .i64 C)).setCell ⟨w.heap.size+1,1,none⟩ (.int .i64 D)).setCell ⟨w.heap.size+1,2,none⟩ (.int .i64 u)).setCell ⟨w.heap.size+1,3,none⟩ (.int .i64 v)).drew) w.heap.size [.int .i64 0,.int .i64 0,.int .i64 0,.int .i64 0]):=
    ((((d.o.other ⟨w.heap.size+1,0,none⟩ (by simp) _).other ⟨w.heap.size+1,1,none⟩ (by simp) _).other ⟨w.heap.size+1,2,none⟩ (by simp) _).other ⟨w.heap.size+1,3,none⟩ (by simp) _).drew
   have d5:Hid (Up w (((((wr.setCell ⟨w.heap.size+1,0,none⟩ (.int .i64 C)).setCell ⟨w.heap.size+1,1,none⟩ (.int .i64 D)).setCell ⟨w.heap.size+1,2,none⟩ (.int .i64 u)).setCell ⟨w.heap.size+1,3,none⟩ (.int .i64 v)).drew)):=
    ((((E.o.setCell (p:=⟨w.heap.size+1,0,none⟩) (Ze _) _).setCell (p:=⟨w.heap.size+1,1,none⟩) (Ze _) _).setCell (p:=⟨w.heap.size+1,2,none⟩) (Ze _) _).setCell (p:=⟨w.heap.size+1,3,none⟩) (Ze _) _).drew
   go_roundw
   case rel=>exact⟨C,D,u,v,y,y',rfl,rfl,d8.o,d9.o,Z.o,d5.o⟩
   have I:=Z.o.cell 2;simp only[J6,Yk] at I;rw[I,d7.o];have:=d6.o;simp only[Option.getD_some,intOf];omega
  have z3:(k != m)=true:=by rw[bne_iff_ne];exact c6
  obtain⟨J,K,k2,k3⟩:=d.o.k4;obtain⟨r0,r1,r2,r3⟩:=d.o.f4
  go_wp2
  have hZ:Bx ((((wr.setCell ⟨w.heap.size,0,none⟩ (.int .i64 A)).setCell ⟨w.heap.size,1,none⟩ (.int .i64 B)).setCell ⟨w.heap.size,2,none⟩ (.int .i64 C)).setCell ⟨w.heap.size,3,none⟩ (.int .i64 D)) w.heap.size [.int .i64 A,.int .i64 B,.int .i64 C,.int .i64 D]:=(((d.o.set 0 _).set 1 _).set 2 _).set 3 _;have hE:Up w ((((wr.setCell ⟨w.heap.size,0,none⟩ (.int .i64 A)).setCell ⟨w.heap.size,1,none⟩ (.int .i64 B)).setCell ⟨w.heap.size,2,none⟩ (.int .i64 C)).setCell ⟨w.heap.size,3,none⟩ (.int .i64 D)):=(((E.o.sc).sc).sc).sc;generalize (((wr.setCell ⟨w.heap.size,0,none⟩ (.int .i64 A)).setCell ⟨w.heap.size,1,none⟩ (.int .i64 B)).setCell ⟨w.heap.size,2,none⟩ (.int .i64 C)).setCell ⟨w.heap.size,3,none⟩ (.int .i64 D)=W5 at *;obtain⟨J,K,k2,k3⟩:=hZ.k4;refine Jh (v:=.agg #[.int .i64 A,.int .i64 B,.int .i64 C,.int .i64 D]) ?_ rfl ⟨A,B,C,D,rfl,⟨x,y,HS.o⟩,hE⟩;simp[results,results208,go_sem,J,K,k2,k3]
 by_cases g1:0<y+C
 ·have g2:¬ 0<y+D:=fun h=>hg ⟨g1,h⟩;obtain⟨J,K,k2,k3⟩:=d.o.k4;obtain⟨r0,r1,r2,r3⟩:=d.o.f4
  go_wp2
  have hZ:Bx ((((wr.setCell ⟨w.heap.size,0,none⟩ (.int .i64 A)).setCell ⟨w.heap.size,1,none⟩ (.int .i64 B)).setCell ⟨w.heap.size,2,none⟩ (.int .i64 C)).setCell ⟨w.heap.size,3,none⟩ (.int .i64 D)) w.heap.size [.int .i64 A,.int .i64 B,.int .i64 C,.int .i64 D]:=(((d.o.set 0 _).set 1 _).set 2 _).set 3 _;have hE:Up w ((((wr.setCell ⟨w.heap.size,0,none⟩ (.int .i64 A)).setCell ⟨w.heap.size,1,none⟩ (.int .i64 B)).setCell ⟨w.heap.size,2,none⟩ (.int .i64 C)).setCell ⟨w.heap.size,3,none⟩ (.int .i64 D)):=(((E.o.sc).sc).sc).sc;generalize (((wr.setCell ⟨w.heap.size,0,none⟩ (.int .i64 A)).setCell ⟨w.heap.size,1,none⟩ (.int .i64 B)).setCell ⟨w.heap.size,2,none⟩ (.int .i64 C)).setCell ⟨w.heap.size,3,none⟩ (.int .i64 D)=W5 at *;obtain⟨J,K,k2,k3⟩:=hZ.k4;refine Jh (v:=.agg #[.int .i64 A,.int .i64 B,.int .i64 C,.int .i64 D]) ?_ rfl ⟨A,B,C,D,rfl,⟨x,y,HS.o⟩,hE⟩;simp[results,results208,go_sem,J,K,k2,k3]
 obtain⟨J,K,k2,k3⟩:=d.o.k4;obtain⟨r0,r1,r2,r3⟩:=d.o.f4
 go_wp2
 have hZ:Bx ((((wr.setCell ⟨w.heap.size,0,none⟩ (.int .i64 A)).setCell ⟨w.heap.size,1,none⟩ (.int .i64 B)).setCell ⟨w.heap.size,2,none⟩ (.int .i64 C)).setCell ⟨w.heap.size,3,none⟩ (.int .i64 D)) w.heap.size [.int .i64 A,.int .i64 B,.int .i64 C,.int .i64 D]:=(((d.o.set 0 _).set 1 _).set 2 _).set 3 _;have hE:Up w ((((wr.setCell ⟨w.heap.size,0,none⟩ (.int .i64 A)).setCell ⟨w.heap.size,1,none⟩ (.int .i64 B)).setCell ⟨w.heap.size,2,none⟩ (.int .i64 C)).setCell ⟨w.heap.size,3,none⟩ (.int .i64 D)):=(((E.o.sc).sc).sc).sc;generalize (((wr.setCell ⟨w.heap.size,0,none⟩ (.int .i64 A)).setCell ⟨w.heap.size,1,none⟩ (.int .i64 B)).setCell ⟨w.heap.size,2,none⟩ (.int .i64 C)).setCell ⟨w.heap.size,3,none⟩ (.int .i64 D)=W5 at *;obtain⟨J,K,k2,k3⟩:=hZ.k4;refine Jh (v:=.agg #[.int .i64 A,.int .i64 B,.int .i64 C,.int .i64 D]) ?_ rfl ⟨A,B,C,D,rfl,⟨x,y,HS.o⟩,hE⟩;simp[results,results208,go_sem,J,K,k2,k3]
theorem Mc (x y:Nat)(w:World)(hx:x<18446744073709551616)(hy:y<18446744073709551616) :
 Calls prog 211 #[.int .u64 (x:Nat),.int .u64 (y:Nat)] w fun e w'=>e=.returned (.int .u64 (Nat.gcd x y:Nat))/\Up w w':=by
 obtain⟨d,I⟩:=O2 (Nat.gcd x y);have HD:=Hd I;rw[I];clear I
 go_in
 go_wp2
 go_loopw [0,1] (fun xv yv wr=>∃ a b:Nat,xv=.int .u64 (a:Nat)/\yv=.int .u64 (b:Nat)/\Nat.gcd a b=d/\a<18446744073709551616/\b<18446744073709551616/\Up w wr) (fun _ yv _=>(intOf yv).toNat)
 case atStart=>exact⟨x,y,rfl,rfl,HD.o,hx,hy,Jj _ _⟩
 obtain⟨a,b,rfl,rfl,Z,ha,Y,V⟩:=hrel;have T:=Hd Z;have J:=Hd V;clear Z V
 by_cases G:b=0
 ·subst G;have HA:Hid (a=d):=by have:=T.o;rw[Nat.gcd_zero_right] at this;exact this
  go_wp2
  go_ret
  exact⟨Kw (by rw[HA.o]),J.o⟩
 have F:Hid (Nat.gcd b (a % b)=d):=by
  unfold Hid
  rw[<-T.o,Om a b,Nat.gcd_rec b a,Om]
 have D:=Zy a (Y0 G);obtain⟨A,H⟩:∃ A:Int,(a:Int)=A:=⟨_,rfl⟩;obtain⟨C,E⟩:∃ C:Int,(b:Int)=C:=⟨_,rfl⟩;have U:A % C=((a % b:Nat):Int):=by rw[<-H,<-E];rfl
 have O:Hid (A % C=((a % b:Nat):Int)):=U;have K:=Hd E;have j:Hid (a % b<b/\b<18446744073709551616):=⟨D,Y⟩;have c1:0<C:=by omega
 have c2:C<18446744073709551616:=by omega
 have a1:0<=A:=by omega
 have a2:A<18446744073709551616:=by omega
 rw[H,E];clear U H E G D ha Y
 go_wp2
 go_quiet (fail)
 go_wp2
 go_roundw
 case rel=>exact⟨b,a % b,O5 K.o.symm,O5 O.o,F.o,j.o.2,by have:=j.o;omega,below_drewN J.o _⟩
 simp[intOf];have:=O.o;have:=K.o;have:=j.o.1;omega
theorem Kv.drewN {w:World}{R:Nat}{l:List Nat}(h:Kv w R l)(n:Nat):Kv (w.drewN n) R l:=by
 obtain⟨t,h⟩:=h;exact⟨t,((below_drewN (Jj _ w) n).block R (Yr.1 h).1).trans h⟩
theorem Bx.drewN (h:Bx W g l)(n:Nat):Bx (W.drewN n) g l:=h.bl h.lt (below_drewN (Jj _ W) n)
theorem IQ (P VL VN c s x y f0 f1 Va Vb low c':Int)(h:VL+P*c=f0*Va+f1*Vb)(hs:s=c+(f0*x+f1*y))(hN:VN=VL+P*low)(hl:s=low+1000000000*c') :
 VN+P*1000000000*c'=f0*(Va+P*x)+f1*(Vb+P*y):=by
 have d:P*s=P*low+P*1000000000*c':=by rw[hl];grind
 have j:P*s=P*c+f0*(P*x)+f1*(P*y):=by rw[hs];grind
 rw[hN]
 grind
theorem CD (f X:Int)(h1 : -1000000000<f)(h2:f<1000000000)(h3:0<=X)(h4:X<1000000000) : -999999998000000001<=f*X/\f*X<=999999998000000001:=by
 have d:f*X<=999999999*X:=Uo (by omega) h3;have j : -999999999*X<=f*X:=Uo (by omega) h3;constructor<;>omega
theorem oR (S:Int):S=S.tmod 1000000000+1000000000*S.tdiv 1000000000:=by
 have:=Int.tmod_add_mul_tdiv S 1000000000;omega
theorem TS (S:Int) : -1000000000<S.tmod 1000000000/\S.tmod 1000000000<1000000000:=by
 have d:=Int.tmod_lt_of_pos S (show (0:Int)<1000000000 by decide);have j:=Int.lt_tmod_of_pos S (show (0:Int)<1000000000 by decide);omega
theorem PT (P VL c V:Int)(h:VL+P*c=V)(h1:0<=VL)(h2:VL<P)(h3:0<=V)(h4:V<P):c=0:=by
 rcases Int.lt_trichotomy c 0 with h5|h5|h5
 ·have:=Ut (show c <= -1 by omega) (show 0<=P by omega);omega
 ·exact h5
 have:=Ut (show 1<=c by omega) (show 0<=P by omega);omega
theorem Ft (B:Nat)(va vb:Value)(a b:List Nat)(f0 f1:Int)(V:Nat)(w:World)(ha:Kn B w va a)(hb:Kn B w vb b)(hla:a.length<=100000)(hlb:b.length<=a.length)(hf0 : -1000000000<f0/\f0<1000000000)(hf1 : -1000000000<f1/\f1<1000000000)
 (hV:f0*val a+f1*val b=V) (hVl:V<1000000000 ^ a.length) :
 Calls prog 210 #[va,vb,.agg #[.int .i64 f0,.int .i64 f1]] w fun e w'=>∃ v L,e=.returned v/\Kn w.heap.size w' v L/\Oq L/\val L=V/\L.length<=a.length/\Up w w':=by
 obtain⟨i0,c6,e6,e7,e8⟩:=info_parts info_u32;have d3:Hid (∀ W,Up w W->Kn B W vb b):=fun W hW=>hb.bl hW;obtain⟨pa,ca,rfl,_⟩:=id ha;obtain⟨pb,cb,rfl,_⟩:=id hb;obtain⟨_,_,_,b6,G⟩:=ha.cells;obtain⟨_,_,_,b7,_⟩:=hb.cells;have HA:=Hd G;clear G ha hb
 go_in
 go_wp2_with (at_make;refine wpList_make_full _ rfl _ _ 70 rfl w.heap.size 127 i0 (.int .u32 0) 1 underlying70 c6 e6 e7 .i64 .i64 _ _ a.length rfl rfl (by first|rfl|omega) (by first|rfl|omega) (by first|omega|(rw[e8];omega)) (by unfold maxLen;omega) (by simp) ?_)
 intro w1 F b8
 first|rw[Ee] at F|rw[K7] at F
 have K:Kv w1 (w.heap.size+1) (List.replicate a.length 0):=(Kt F).tail;have T:Below (w.heap.size+1) (w.alloc (.cells #[.int .i64 f0,.int .i64 f1] 213)) w1:=(Jj _ _).grown b8 (by simp) (fun k h=>by cases h);have U:Bx w1 w.heap.size [.int .i64 f0,.int .i64 f1]:=(Ox w [.int .i64 f0,.int .i64 f1] 213).bl (Yh _) T;have b5:Up w w1:=(Oo w _).trans (T.mono (Ze _));clear F b8 T
 go_wp2
 go_loopw [8,16] (fun cv iv wr=>∃ (i:Nat) (c:Int) (L:List Nat),i<=a.length/\cv=.int .i64 c/\iv=.int .i64 (i:Nat)/\(-2000000000<=c/\c<=2000000000)/\L.length=a.length/\Kx L/\Kv wr (w.heap.size+1) L/\Bx wr w.heap.size [.int .i64 f0,.int .i64 f1] /\
  (val (L.take i):Int)+(1000000000 ^ i:Nat)*c=f0*val (a.take i)+f1*val (b.take i)/\Up w wr) (fun _ iv _=>a.length - (intOf iv).toNat)
 case atStart=>exact⟨0,0,_,J7 _,rfl,rfl,by omega,by simp,fun x hx=>by rw[Yu hx];omega,K,U,by simp[val],b5⟩
 clear K U b5;obtain⟨i,c,L,hi,rfl,rfl,⟨g5,g6⟩,Z,D,K,U,d,hB⟩:=hrel
 by_cases b9:i<a.length
 ·obtain⟨ba,oa,rfl,c7,G⟩:=HA.o i b9;rw[<-hB.cell (p:=⟨ba,oa+i,none⟩) c7] at G;have e4:=Kk a b6 i b9;have e5:=Qk b b7 i;obtain⟨X,hX⟩:∃ X:Int,((a.getD i 0:Nat):Int)=X:=⟨_,rfl⟩;obtain⟨Y,hY⟩:∃ Y:Int,((b.getD i 0:Nat):Int)=Y:=⟨_,rfl⟩;rw[hX] at G;obtain⟨m1,m2⟩:=CD f0 X hf0.1 hf0.2 (by omega) (by omega);obtain⟨m3,m4⟩:=CD f1 Y hf1.1 hf1.2 (by omega) (by omega);obtain⟨S,hS⟩:=O2 (c+(f0*X+f1*Y));obtain⟨R,a6⟩:=O2 (S.tmod 1000000000);obtain⟨Q,hQ⟩:=O2 (S.tdiv 1000000000);have a7:=oR S;have e3:=TS S;rw[a6,hQ] at a7;rw[a6] at e3;have x1:0<=X/\X<1000000000:=by omega
  have y1:0<=Y/\Y<1000000000:=by omega
  have b4:Hid (∀ (low:Nat) (c':Int),S=low+1000000000*c'->(val ((L.set i low).take (i+1)):Int)+(1000000000 ^ (i+1):Nat)*c'=f0*val (a.take (i+1))+f1*val (b.take (i+1))):=fun low c' hl=>by
   rw[Ky L i low (by omega),Oz a i,Oz b i,Ju,Og,Og,Og,Z9,Z9,Z9,Z9,hX,hY];exact IQ _ _ _ c S X Y f0 f1 _ _ low c' d hS.symm rfl hl
  have u1:IntKind.i64.wrap (f0*X)=f0*X:=Ez _ (by omega) (by omega);have u2:IntKind.i64.wrap (f1*Y)=f1*Y:=Ez _ (by omega) (by omega);have u3:IntKind.i64.wrap (f0*X+f1*Y)=f0*X+f1*Y:=Ez _ (by omega) (by omega);have u4:IntKind.i64.wrap (c+(f0*X+f1*Y))=S:=by rw[hS];exact Ez _ (by omega) (by omega)
  have u5:IntKind.i64.wrap (S.tmod 1000000000)=R:=by rw[a6];exact Ez _ (by omega) (by omega)
  have u6:IntKind.i64.wrap (S.tdiv 1000000000)=Q:=by rw[hQ];exact Ez _ (by omega) (by omega)
  obtain⟨e0,e1⟩:=U.k2;have e2:=K.cell i (by omega);have g7:=K.frozen i;have HY:=Hd hY;have HR:=Hd K;have HF:=Hd U;have HB:=Hd hB;have d4:=Hd D;have O:=Hd Z;have HI:=Hd (d3.o _ hB);have q1 : -1999999999<=Q/\Q<=1999999999:=by omega
  have I:Hid (∀ (nq:Nat) (low:Nat),low<1000000000->Kv ((wr.drewN nq).setCell ⟨w.heap.size+1,i,none⟩ (.int .u32 (low:Nat))) (w.heap.size+1) (L.set i low)/\Kx (L.set i low)):=fun nq low hl=>
   ⟨Kv.set (w:=wr.drewN nq) (HR.o.drewN nq) i low (by have:=O.o;omega),Kp L d4.o i low hl⟩
  have J:Hid (∀ (nq:Nat) (u:Value),Bx ((wr.drewN nq).setCell ⟨w.heap.size+1,i,none⟩ u) w.heap.size [.int .i64 f0,.int .i64 f1]/\Up w ((wr.drewN nq).setCell ⟨w.heap.size+1,i,none⟩ u)):=fun nq u=>
   ⟨(HF.o.drewN nq).other _ (by simp) u,(below_drewN HB.o nq).setCell (p:=⟨w.heap.size+1,i,none⟩) (Ze _) u⟩
  have b3:=Hd a7;clear K U hB D d hY hX hS e4 e5 a7
  go_upto_region 6 with fail
  go_quiet (first|(go_at_call 233;refine Calls.quiet_of_same (Pe B _ b _ i Y _ HI.o rfl (by omega) HY.o)))
  by_cases f8:R<0
  ·have u7:IntKind.i64.wrap (R+1000000000)=R+1000000000:=Ez _ (by omega) (by omega);have u8:IntKind.i64.wrap (Q - 1)=Q - 1:=Ez _ (by omega) (by omega);obtain⟨low,E⟩:∃ low:Nat,R+1000000000=(low:Int):=⟨(R+1000000000).toNat,by omega⟩;have j:=Hd E;have H:low<1000000000:=by omega
   clear E
   go_wp2
   rw[j.o]
   go_roundw
   case rel=>exact⟨i+1,Q - 1,L.set i low,by omega,rfl,by go_num,by omega,by rw[List.length_set];exact O.o,(I.o nq low H).2,(I.o nq low H).1,(J.o nq _).1,b4.o low (Q - 1) (by have:=b3.o;have:=j.o;omega),(J.o nq _).2⟩
   simp[intOf];omega
  obtain⟨low,E⟩:∃ low:Nat,R=(low:Int):=⟨R.toNat,by omega⟩;have j:=Hd E;have H:low<1000000000:=by omega
  clear E
  go_wp2
  rw[j.o]
  go_roundw
  case rel=>exact⟨i+1,Q,L.set i low,by omega,rfl,by go_num,by omega,by rw[List.length_set];exact O.o,(I.o nq low H).2,(I.o nq low H).1,(J.o nq _).1,b4.o low Q (by have:=b3.o;have:=j.o;omega),(J.o nq _).2⟩
  simp[intOf];omega
 obtain rfl:i=a.length:=by omega
 rw[Jf (by omega),Jf O1,Jf hlb,hV] at d;have hP:((val L:Nat):Int)<((1000000000 ^ a.length:Nat):Int):=by
  have:=G4 L D;rw[Z] at this;exact Int.ofNat_lt.2 this
 have d9:=PT _ _ c V d (Uv _) hP (Uv _) (Int.ofNat_lt.2 hVl);rw[d9,Int.mul_zero,Int.add_zero] at d;have c8:val L=V:=Int.ofNat.inj d;have HI:Hid (Kn w.heap.size wr (.slice (some ⟨w.heap.size+1,0,none⟩) a.length a.length) L):=by
  have h:=K.isL (B:=w.heap.size) (cap:=a.length) (Ze _) D (by omega) (by unfold maxLen;omega);rw[Z] at h;exact h
 have HT:Hid (val (Ov L)=V/\(Ov L).length<=a.length/\Oq (Ov L)):=⟨by rw[O9];exact c8,by have:=Kl L;omega,O8 _⟩;have d2:=Hd hB;clear d K hB D U hP c8 hV hVl
 go_wp2_with fail
 refine (E6 w.heap.size _ L _ HI.o).mono ?_;rintro e w5 ⟨v,rfl,hcut,rfl⟩;have HW:Hid (Kn w.heap.size w5 v (Ov L)):=hcut _ _ HI.o;obtain⟨pv,cv,hv,_⟩:=HW.o;subst hv;clear hcut
 go_wp2
 go_ret
 exact⟨_,_,rfl,HW.o,HT.o.2.2,HT.o.1,HT.o.2.1,d2.o⟩
theorem Cq (a b:List Nat)(ta:Oq a)(ob:Kx b)(h:val a<=val b):a.length<=b.length:=by
 by_cases ha:a=[]
 ·rw[ha];exact J7 _
 have d:=Xs a ta ha;have j:=G4 b ob;have h3:1000000000 ^ (a.length - 1)<1000000000 ^ b.length:=by omega
 have h4:=(Nat.pow_lt_pow_iff_right (show 1<1000000000 by decide)).1 h3;omega
theorem AV (a:List Nat)(n:Nat)(h:a.length=n+1)(ta:Oq a):1<=a.getD n 0:=by
 have d:a≠[]:=by rintro rfl;simp at h
 have:=ta d;rw[List.getLast_eq_getElem] at this;rw[Ji,Jl (by omega)];simp only[h,Vm] at this;simp only[Option.getD_some];omega
theorem AD (a b c d:Int)(w:World):(Op.equalIn 10000 213 (.agg #[.int .i64 a,.int .i64 b]) (.agg #[.int .i64 c,.int .i64 d])).run prog w=.ok (a==c&&b==d) w:=by
 have u3:=underlying2;have a3:=Tryz.isAgg2;have z3:=Tryz.sizeOf2;rw[show (10000:Nat)=9999+1 from rfl,Op.equalIn];simp only[Sem.run_bind,run_underlying underlying213,Result.andThen_ok];simp only[Std.Legacy.Range.forIn_eq_forIn_range',Std.Legacy.Range.size,Nat.sub_zero,Vm,Nat.div_one,List.range'_succ,List.range'_zero,List.forIn_cons,List.forIn_nil]
 go_simp
 by_cases j:a=c<;>by_cases D:b=d<;>simp[j,D]
theorem MC (a b q r:Nat)(h:a=q*b+r):Nat.gcd b r=Nat.gcd a b:=by
 rw[h,Om (q*b+r) b,Nat.gcd_rec b (q*b+r),Yy,Nat.mul_add_mod,Nat.gcd_rec b r]
theorem Ho {N:Nat}(w:World)(o:Obj)(h:N<=w.heap.size):Below N w (w.alloc o):=(Jj _ w).alloc h o
def PE (B n d:Nat)(w0:World)(k:Nat)(av bv:Value)(wr:World):Prop:=
 ∃ A L:List Nat,(Kn B wr av A/\Kn B wr bv L)/\(Oq A/\Oq L)/\(val L<=val A/\val L=k)/\Nat.gcd (val A) (val L)=d/\A.length<=n/\Up w0 wr
theorem Lx (B:Nat)(va vb:Value)(a b:List Nat)(n:Nat)(w:World)(hBw:B<=w.heap.size)(ha:Kn B w va a)(hb:Kn B w vb b)(ta:Oq a)(tb:Oq b)(hla:a.length<=n)(hlb:b.length<=n)(hn:n<=90000)(hNS:NS w) :
 Calls prog 169 #[va,vb] w fun e w'=>∃ v L,e=.returned v/\Kn B w' v L/\Oq L/\val L=Nat.gcd (val a) (val b)/\Up w w':=by
 have HA:=Hd ha;have HB:=Hd hb;have k1:=Hd hNS;have HT:Hid (Oq a/\Oq b):=⟨ta,tb⟩;have e0:=Hd hBw;obtain⟨pa,ca,rfl,_,_,oa,_⟩:=ha;obtain⟨pb,cb,rfl,_,_,ob,_⟩:=hb;obtain⟨d,hd⟩:=O2 (Nat.gcd (val a) (val b));rw[hd];have HD:=Hd hd;obtain⟨c,hc⟩:=O2 (En a b);have HC:=Hd hc;have q9 : -1<=c/\c<=1:=by rw[<-hc];exact Hs a b
 have e9:Hid (if c<0 then val a<=val b else val b<=val a):=by
  unfold Hid
  rw[<-hc,Gu a b oa ob ta tb];unfold S3
  split
  ·rw[if_pos (by decide)];omega
  split
  ·rw[if_neg (by decide)];omega
  rw[if_neg (by decide)];omega
 clear hd hc ta tb hNS hBw oa ob
 by_cases l6:c<0
 all_goals
  go_in
  go_wp2_with fail
  refine (E9 B _ _ a b _ HA.o HB.o).mono ?_;rintro e w1 ⟨rfl,g1⟩;rw[HC.o];have O:=Hd g1;clear g1
  go_wp2
  go_loopg [0,1] (min (val a) (val b)) (PE B n d w)
  case atStart=>
   have h:=e9.o
   first
    | (rw[if_pos l6] at h;rw[Vd h];exact⟨b,a,⟨HB.o.bl O.o,HA.o.bl O.o⟩,⟨HT.o.2,HT.o.1⟩,⟨h,rfl⟩,by rw[Om];exact HD.o,hlb,O.o⟩)
    | (rw[if_neg (by omega)] at h;rw[Nat.min_eq_right h];exact⟨a,b,⟨HA.o.bl O.o,HB.o.bl O.o⟩,⟨HT.o.1,HT.o.2⟩,⟨h,rfl⟩,HD.o,hla,O.o⟩)
  obtain⟨A,L,⟨hA,hL⟩,⟨tA,tL⟩,⟨e4,hk⟩,hg,r3,hB⟩:=hrel;obtain⟨p1,c1,rfl,_,_,oA,_⟩:=id hA;obtain⟨p2,c2,rfl,_,_,oL,_⟩:=id hL;have V:=Hd hA;have Z:=Hd hL;have E:Hid ((Oq A/\Oq L)/\(val L<=val A/\val L=gk)/\Nat.gcd (val A) (val L)=d/\(Kx A/\Kx L)/\L.length<=A.length):=⟨⟨tA,tL⟩,⟨e4,hk⟩,hg,⟨oA,oL⟩,Cq L A tL oA e4⟩;have D:=Hd hB;have d1:=Hd (k1.o.bl hB);clear hA hL tA tL e4 hk hg hB oA oL
  by_cases h2:A.length<=2
  ·have HV:Hid (val A<1000000000000000000/\val L<1000000000000000000):=by
    have h1:=G4 A E.o.2.2.2.1.1;have h3:=J3 (show 0<1000000000 by decide) h2;have h4:=E.o.2.1.1;have h5:(1000000000:Nat) ^ 2=1000000000000000000:=by decide
    show val A<1000000000000000000/\val L<1000000000000000000
    omega
   go_wp2_with fail
   refine (Ar B _ A _ V.o).mono ?_;rintro e w2 ⟨rfl,b3⟩;rw[Sw _ (by have:=HV.o.1;omega)];have H:=Hd b3;clear b3
   go_wp2_with fail
   refine (Ar B _ L _ (Z.o.bl H.o)).mono ?_;rintro e w3 ⟨rfl,b4⟩;rw[Sw _ (by have:=HV.o.2;omega)];have j:=Hd (H.o.trans (b4.mono H.o.size));clear b4
   go_wp2_with fail
   refine (Mc (val A) (val L) _ (by have:=HV.o.1;omega) (by have:=HV.o.2;omega)).mono ?_;rintro e w4 ⟨rfl,g2⟩;rw[E.o.2.2.1];have F:=Hd (j.o.trans (g2.mono j.o.size));have g6:Hid (d<18446744073709551616):=by
    have h1:=E.o.2.2.1
    by_cases h0:val A=0
    ·rw[h0,Nat.gcd_zero_left] at h1;have:=HV.o.2
     show d<18446744073709551616
     omega
    have h3:=Nat.gcd_le_left (val L) (Y0 h0);have:=HV.o.1
    show d<18446744073709551616
    omega
   clear g2
   go_wp2_with fail
   refine (Q5 d _ g6.o).mono ?_;rintro e w5 ⟨v,t,rfl,hv,ht,i6,_,G⟩;have j8:=Hd (D.o.trans ((F.o.trans (G.mono F.o.size)).mono D.o.size));have k7:Hid (Kn B w5 v t):=hv.mono (by have:=D.o.size;have:=F.o.size;have:=e0.o;omega);have f5:Hid (Oq t/\val t=d):=⟨ht,i6⟩;obtain⟨pv,cv,l9,_⟩:=hv;subst l9;clear ht i6 G
   go_wp2
   go_ret
   exact⟨_,t,rfl,k7.o,f5.o.1,f5.o.2,j8.o⟩
  by_cases h0:L.length=0
  ·have HG:Hid (val A=d):=by
    have h1:=E.o.2.2.1;rw[Jo h0] at h1
    show val A=d
    simpa[val] using h1
   go_wp2
   go_ret
   exact⟨_,A,rfl,V.o,E.o.1.1,HG.o,D.o⟩
  obtain⟨m,hm⟩:∃ m,A.length=m+3:=⟨A.length - 3,by omega⟩;have HM:=Hd hm;have r4:m<=90000:=by omega
  have q8:((L.length:Int)==0)=false:=by rw[Jd];omega
  clear hm
  go_wp2_with fail
  refine (Fv B _ _ A L m _ V.o Z.o (by omega) HM.o (by have:=E.o.2.2.2.2;have:=HM.o;omega) (AV A (m+2) HM.o E.o.1.1) E.o.2.1.1).mono ?_;rintro e w2 ⟨x0,y0,rfl,J,b3⟩;have e1:=Hd J;have H:=Hd b3;have HX:Hid (x0<1000000000000000000/\y0<=x0):=by
   obtain⟨_,_,_,_,_,_,_,h1,h2⟩:=J;exact⟨h1,h2⟩
  clear J b3
  go_wp2_with fail
  refine (Fz x0 y0 _ HX.o.1 HX.o.2 (d1.o.bl H.o)).mono ?_;rintro e w3 ⟨T,fB,fC,fD,rfl,g9,b4⟩;have k5:=Hd g9;have j:=Hd (H.o.trans (b4.mono H.o.size));obtain⟨n0,n1,n2,n3⟩:=d1.o.bl j.o;have n8:=Da n0;clear g9 b4
  by_cases e5:T=1/\fB=0
  ·obtain⟨rfl,rfl⟩:=e5;have hq:∀ W,(Op.equalIn 10000 213 (.agg #[.int .i64 1,.int .i64 0]) (.agg #[.int .i64 1,.int .i64 0])).run prog W=.ok true W:=fun W=>AD 1 0 1 0 W
   go_wp2_with fail
   refine (D6 B _ _ A L _ (by have:=e0.o;have:=D.o.size;have:=j.o.size;simp;omega) (V.o.bl (j.o.trans (Ho _ _ j.o.size))) (Z.o.bl (j.o.trans (Ho _ _ j.o.size))) (by omega) E.o.1.1 E.o.1.2 (fun h=>h0 (by rw[h];rfl))).mono ?_;rintro e w5 ⟨v,u,Q,U,rfl,⟨⟨_,hu⟩,⟨_,h8⟩,_,d6,g8⟩,G⟩;have b5:Up wr w5:=(j.o.trans (Ho _ _ j.o.size)).trans (G.mono (by have:=j.o.size;simp;omega));have e2:Hid (PE B n d w (val U) (.slice p2 L.length c2) u w5):=
    ⟨L,U,⟨Z.o.bl b5,hu⟩,⟨E.o.1.2,h8⟩,⟨by omega,rfl⟩,by rw[<-E.o.2.2.1];exact MC _ _ _ _ d6,by have:=E.o.2.2.2.2;omega,D.o.trans (b5.mono D.o.size)⟩
   have j9:Hid (val U<gk):=by unfold Hid;have:=E.o.2.1.2;omega
   obtain⟨pu,cu,l8,_⟩:=hu;subst l8;clear h8 d6 g8 G b5
   go_wp2
   go_roundg (val U)
   case measure=>exact j9.o
   exact e2.o
  have hq:∀ W,(Op.equalIn 10000 213 (.agg #[.int .i64 T,.int .i64 fB]) (.agg #[.int .i64 1,.int .i64 0])).run prog W=.ok false W:=fun W=>by
   rw[AD]
   congr 1
   rw[Bool.and_eq_false_iff,Jd,Jd]
   by_cases h:T=1
   ·exact .inr fun h'=>e5 ⟨h,h'⟩
   exact .inl h
  obtain⟨W4,c8⟩:=O2 (w3.alloc (.cells #[.int .i64 T,.int .i64 fB,.int .i64 fC,.int .i64 fD] 215));have e3:Bx W4 w3.heap.size [.int .i64 T,.int .i64 fB,.int .i64 fC,.int .i64 fD]:=by rw[<-c8];exact Ox w3 _ _
  have g0:Up wr W4:=by rw[<-c8];exact j.o.trans (Ho _ _ j.o.size)
  have k8:=Hd c8;have F:=Hd g0;have e8:Hid (∀ W,Up W4 W->W.cell? ⟨w3.heap.size,0,none⟩=some (.int .i64 T)/\W.cell? ⟨w3.heap.size,1,none⟩=some (.int .i64 fB)/\W.cell? ⟨w3.heap.size,2,none⟩=some (.int .i64 fC)/\W.cell? ⟨w3.heap.size,3,none⟩=some (.int .i64 fD)):=fun W hW=>by
   have h:=e3.bl e3.lt hW;exact⟨h.cell 0,h.cell 1,h.cell 2,h.cell 3⟩
  have c6:Hid (∀ W,Up W4 W->(Kn B W (.slice p1 A.length c1) A/\Kn B W (.slice p2 L.length c2) L)/\Up wr W):=fun W hW=>by
   have hh:=F.o.trans (hW.mono F.o.size);exact⟨⟨V.o.bl hh,Z.o.bl hh⟩,hh⟩
  obtain⟨xf,yf,b7⟩:=k5.o;have b6:=Wi x0 y0 T fB fC fD xf yf b7 HX.o.1 HX.o.2;obtain⟨SS,a',b',ea,eb,i7,i8,_,_⟩:=e1.o;obtain⟨a1,b1,g4,g5,g7,d3,l3⟩:=LY x0 y0 T fB fC fD xf yf SS (val A) (val L) a' b' b7 e5 ea eb i7 i8;have l7:val A<1000000000 ^ A.length:=G4 A E.o.2.2.2.1.1;have I:Hid ((T*(val A:Nat)+fB*(val L:Nat)=(a1:Nat)/\a1<1000000000 ^ A.length)/\(fC*(val A:Nat)+fD*(val L:Nat)=(b1:Nat)/\b1<1000000000 ^ A.length)/\Nat.gcd a1 b1=d/\b1<a1/\b1<gk):=by
   have h1:=E.o.2.1;exact⟨⟨g4,by omega⟩,⟨g5,by omega⟩,g7.trans E.o.2.2.1,d3,by omega⟩
  have HF:Hid (((-1000000000<T/\T<1000000000)/\(-1000000000<fB/\fB<1000000000))/\(-1000000000<fC/\fC<1000000000)/\(-1000000000<fD/\fD<1000000000)):=⟨⟨b6.1,b6.2.1⟩,b6.2.2.1,b6.2.2.2.1⟩;have K:Hid (L.length<=A.length/\A.length<=100000):=⟨E.o.2.2.2.2,by omega⟩;clear b7 b6 ea eb i7 i8 g4 g5 g7 d3 l3 l7 e3 g0 c8
  go_upto_region 10 with fail
  rw[k8.o];obtain⟨c0,p9,q6,c3⟩:=e8.o W4 (Jj _ _)
  go_region_with (first
   | (go_at_call_of 210 (Value.int IntKind.i64 T)
      refine (Ft B _ _ A L T fB a1 _ (c6.o _ (Jj _ W4).drew).1.1 (c6.o _ (Jj _ W4).drew).1.2 K.o.2 K.o.1 HF.o.1.1 HF.o.1.2 I.o.1.1 I.o.1.2).mono ?_;rintro e w5 ⟨v1,L1,rfl,h9,h6,d7,d4,G⟩;have Y:Hid (Up W4 w5):=(Jj _ W4).drew.trans G;have a6:Hid (Kn W4.heap.size w5 v1 L1/\Oq L1/\val L1=a1/\L1.length<=A.length):=⟨h9,h6,d7,d4⟩;obtain⟨p8,m8,m9,q7⟩:=e8.o w5 Y.o;clear h9 h6 d7 d4 G)
   | (go_at_call_of 210 (Value.int IntKind.i64 fC)
      refine (Ft B _ _ A L fC fD b1 _ (c6.o _ Y.o).1.1 (c6.o _ Y.o).1.2 K.o.2 K.o.1 HF.o.2.1 HF.o.2.2 I.o.2.1.1 I.o.2.1.2).mono ?_;rintro e w6 ⟨v2,L2,rfl,i1,h7,d8,d5,g3⟩;have e7:=Hd g3;have a7:Hid (Kn w5.heap.size w6 v2 L2/\Oq L2/\val L2=b1/\L2.length<=A.length):=⟨i1,h7,d8,d5⟩;clear i1 h7 d8 d5 g3))
  all_goals
   have e2:Hid (PE B n d w b1 v1 v2 w6):=by
    have s1:=e0.o;have s2:=D.o.size;have s3:=F.o.size;have s4:=Y.o.size;exact⟨L1,L2,⟨(a6.o.1.bl e7.o).mono (by omega),a7.o.1.mono (by omega)⟩,⟨a6.o.2.1,a7.o.2.1⟩,⟨by rw[a6.o.2.2.1,a7.o.2.2.1];exact Uh I.o.2.2.2.1,a7.o.2.2.1⟩,by rw[a6.o.2.2.1,a7.o.2.2.1];exact I.o.2.2.1,by have:=a6.o.2.2.2;omega,
     D.o.trans ((F.o.trans ((Y.o.trans (e7.o.mono s4)).mono s3)).mono s2)⟩
   try simp only[Yg,Yb,J0,Act.put,Ja,Jb,Jc]
   go_wp2
   go_roundg b1
   case measure=>exact I.o.2.2.2.2
   exact e2.o
def No (x y:Int):Int:=((Int.gcd x y:Nat):Int)
theorem Ih (n:Bool)(v:Nat):(sg n v).natAbs=v:=by cases n<;>simp[sg]
theorem MD (na nb:Bool)(a b:Nat):No (sg na a) (sg nb b)=((Nat.gcd a b:Nat):Int):=by
 unfold No Int.gcd;rw[Ih,Ih]
theorem MF (a b L:List Nat)(n:Nat)(tL:Oq L)(oa:Kx a)(ob:Kx b)(hv:val L=Nat.gcd (val a) (val b))(ha:a.length<=n)(hb:b.length<=n):L.length<=n:=by
 by_cases d:val a=0
 ·rw[d,Nat.gcd_zero_left] at hv;have:=Cq L b tL ob (by omega);omega
 have j:=Nat.gcd_le_left (val b) (Y0 d);have:=Cq L a tL oa (by omega);omega
theorem Ds (B:Nat)(za zb:Value)(x y:Int)(n:Nat)(w:World)(hBw:B<=w.heap.size)(ha:N8 B w za x n)(hb:N8 B w zb y n)(hn:n<=90000)(hNS:NS w) :
 Calls prog 131 #[za,zb] w fun e w'=>∃ z,e=.returned z/\N8 B w' z (No x y) n/\Up w w':=by
 obtain⟨na,va,a,rfl,a8,ta,rfl,Z⟩:=ha;obtain⟨nb,vb,b,rfl,b3,tb,rfl,a6⟩:=hb;rw[MD];have b7:=Hd a8;have b8:=Hd b3;have b6:=Hd hNS;have b5:=Hd hBw;have T:Hid (Oq a/\Oq b):=⟨ta,tb⟩;obtain⟨pa,ca,rfl,_,_,oa,_⟩:=a8;obtain⟨pb,cb,rfl,_,_,ob,_⟩:=b3;have O:Hid (Kx a/\Kx b):=⟨oa,ob⟩;clear ta tb hNS hBw oa ob;obtain⟨W0,E⟩:=O2 (((w.alloc (.cells #[.bool (Ko na a),.slice pa a.length ca] 85)).alloc (.cells #[.bool (Ko nb b),.slice pb b.length cb] 85)).alloc (.cells #[.bool false,.slice none 0 0] 85));have b9:=Hd E;have d:Hid (Up w W0):=by
  unfold Hid
  rw[<-E];exact Ou (Ou (Oo _ _) _) _
 have H:Bx W0 (w.heap.size+1+1) [.bool false,.slice none 0 0]:=by
  rw[<-E];have h:=Ox ((w.alloc (.cells #[.bool (Ko na a),.slice pa a.length ca] 85)).alloc (.cells #[.bool (Ko nb b),.slice pb b.length cb] 85)) [.bool false,.slice none 0 0] 85;rw[J4,J4] at h;exact h
 have K:Hid (∀ W,Up W0 W->Bx W (w.heap.size+1+1) [.bool false,.slice none 0 0]):=fun W hW=>H.bl H.lt hW;clear E H
 go_in
 go_wp2_with fail
 rw[b9.o];refine (Lx B _ _ a b n _ (by have:=b5.o;have:=d.o.size;omega) (b7.o.bl d.o) (b8.o.bl d.o) T.o.1 T.o.2 Z a6 hn (b6.o.bl d.o)).mono ?_;rintro e w1 ⟨v,L,rfl,hv,tL,j,V⟩;have HV:=Hd hv;have J:=Hd V;have HL:Hid (Oq L/\val L=Nat.gcd (val a) (val b)/\L.length<=n):=⟨tL,j,MF a b L n tL O.o.1 O.o.2 j Z a6⟩;obtain⟨pv,cv,d0,_⟩:=hv;subst d0;clear tL j V
 go_wp2_with fail
 refine (K4 B false _ L _ HV.o).mono ?_;rintro e D ⟨v',rfl,hcut,G⟩;have U:Hid (Kn B D v' L):=by
  have h:=hcut _ _ (HV.o.bl G);rw[P1 L HL.o.1] at h;exact h
 have F:=Hd (J.o.trans (G.mono J.o.size));have e1:Ko false (Ov L)=false:=by unfold Ko;rfl
 rw[e1];have hb:=K.o D F.o;obtain⟨k0,k1⟩:=hb.k2;obtain⟨r0,r1⟩:=hb.f2;obtain⟨I,c2,c8,_⟩:=U.o;subst c8;clear hcut G hb e1
 go_wp2
 have Y:=K.o D F.o;have a7:Kh D (w.heap.size+1+1):=fun i x=>by
  rw[Y.cell i]
  match i with
  | 0=>simp
  | 1=>simp
  | i+2=>simp
 have kk:K0 (w.heap.size+1+1) (w.heap.size+1+1) D ((D.setCell ⟨w.heap.size+1+1,0,none⟩ (.bool false)).setCell ⟨w.heap.size+1+1,1,none⟩ (.slice I L.length c2)):=
  K0.setCell (K0.setCell (K0.refl _ _ D) ⟨w.heap.size+1+1,0,none⟩ (.bool false) (Or.inl rfl)) ⟨w.heap.size+1+1,1,none⟩ (.slice I L.length c2) (Or.inl rfl)
 have c7:=U.o.keeps a7 a7 kk;have hZ:Bx ((D.setCell ⟨w.heap.size+1+1,0,none⟩ (.bool false)).setCell ⟨w.heap.size+1+1,1,none⟩ (.slice I L.length c2)) (w.heap.size+1+1) [.bool false,.slice I L.length c2]:=(Y.set 0 _).set 1 _;have hE:Up w ((D.setCell ⟨w.heap.size+1+1,0,none⟩ (.bool false)).setCell ⟨w.heap.size+1+1,1,none⟩ (.slice I L.length c2)):=
  ((d.o.trans (F.o.mono d.o.size)).setCell (p:=⟨w.heap.size+1+1,0,none⟩) (by show _<=w.heap.size+1+1;omega) _).setCell (p:=⟨w.heap.size+1+1,1,none⟩) (by show _<=w.heap.size+1+1;omega) _
 generalize (D.setCell ⟨w.heap.size+1+1,0,none⟩ (.bool false)).setCell ⟨w.heap.size+1+1,1,none⟩ (.slice I L.length c2)=WE at *;obtain⟨m0,m1⟩:=hZ.k2;refine Jh (v:=.agg #[.bool false,.slice I L.length c2]) ?_ rfl ⟨_,rfl,⟨false,_,L,by unfold Ko;rfl,c7,HL.o.1,by rw[HL.o.2.1];rfl,HL.o.2.2⟩,hE⟩;simp[results,results131,go_sem,m0,m1]
end Go.Proofs.YtjjgilacnocigaaGreatDoor.Q
