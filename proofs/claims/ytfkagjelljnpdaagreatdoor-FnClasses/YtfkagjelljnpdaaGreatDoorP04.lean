import Derived.Test.YtfkagjelljnpdaaGreatDoorP03
namespace Go.Proofs.YtfkagjelljnpdaaGreatDoor.Q
open ChangeShapes WideShapes ChangeAt RowKit
def G9(s:ByteArray):Int:=sg (Ur s) (val (UI s))
end Go.Proofs.YtfkagjelljnpdaaGreatDoor.Q
namespace Go.Proofs.YtfkagjelljnpdaaGreatDoor.Q
open RowKit
theorem NM(g:List UInt8)(hg:∀c∈g,P8 c)(j:Nat)(hj:j<g.length):num g / 10 ^ (g.length - 1 - j) % 10=g[j].toNat - 48:=by
 induction hn:g.length generalizing g j with
 | zero=>omega
 | succ n ih=>
   obtain⟨f,c,rfl⟩:∃f c,g=f++[c]:=⟨g.dropLast,g.getLast (by intro h;rw[h]at hj;simp at hj),(Y5 _).symm⟩;have O:P8 c:=hg c (by simp);unfold P8 at O;have E:f.length=n:=by simpa using hn
   rw[C0]
   by_cases R:j<n
   ·have G:n+1 - 1 - j=(n - 1 - j)+1:=by omega
    have K:(num f*10+(c.toNat - 48)) / 10 ^ (n - 1 - j+1)=num f / 10 ^ (n - 1 - j):=by
     rw[Vt,Nat.mul_comm (10 ^ (n - 1 - j)) 10,<-Z1,show(num f*10+(c.toNat - 48)) / 10=num f by omega]
    rw[G,K];have:=ih f (fun x hx=>hg x (by simp[hx])) j (by omega) E;rw[this]
    congr 2
    rw[Vd (by omega)]
   have q:j=n:=by simp at hj;omega
   subst q;simp only[Nat.add_sub_cancel,Nat.sub_self,Nat.pow_zero,Nat.div_one];have J:(f++[c])[j]=c:=by rw[Zu (by omega)];simp[E]
   rw[J];omega
theorem XI(g:List UInt8)(hg:∀c∈g,P8 c)(h9:g.length=9):Od (Xu (num g) 9)=g:=by
 apply Vi
 ·simp[Od,Xu,h9]
 intro j E h;have hd:=NM g hg j h;have q:=hg g[j] (Jj _);unfold P8 at q;simp only[Od,Xu,Yh,List.getElem_range];unfold dg tens;rw[show 8 - j=g.length - 1 - j by omega,hd];apply UInt8.toNat_inj.1;rw[UInt8.toNat_ofNat_of_lt' (by show _<256;omega)];omega
theorem NT(k:Nat)(d:List UInt8):num (List.replicate k 48++d)=num d:=by
 induction k with
 | zero=>simp
 | succ k ih=>
   rw[Vv,Y4]
   show num (48::(List.replicate k 48++d))=num d
   rw[<-ih];simp[num]
def padD(d:List UInt8):List UInt8:=List.replicate (9*I6 d.length - d.length) 48++d
theorem Pw(d:List UInt8):(padD d).length=9*I6 d.length:=by
 unfold padD I6;simp;omega
theorem QF(d:List UInt8)(hd:∀c∈d,P8 c):∀c∈padD d,P8 c:=by
 intro c j;unfold padD at j
 rcases Yc.1 j with h|h
 ·rw[List.eq_of_mem_replicate h];exact⟨by decide,by decide⟩
 exact hd c h
theorem KI(d:List UInt8)(i:Nat)(hi:i<I6 d.length):chunk d i=num (((padD d).take (9*I6 d.length - 9*i)).drop (9*I6 d.length - 9*i - 9)):=by
 unfold chunk padD;have J:9*I6 d.length - d.length<=8/\d.length<=9*I6 d.length:=by unfold I6;omega
 generalize G:9*I6 d.length - d.length=z at *;have h:9*I6 d.length - 9*i=z+(d.length - 9*i):=by omega
 have j:(List.replicate z (48:UInt8)++d).take (z+(d.length - 9*i))=List.replicate z 48++d.take (d.length - 9*i):=by rw[List.take_append,Vq,Nat.add_sub_cancel_left,Yf (by rw[Vq];omega)]
 rw[h,j]
 by_cases E:9<=d.length - 9*i
 ·have q:(List.replicate z (48:UInt8)++d.take (d.length - 9*i)).drop (z+(d.length - 9*i) - 9)=(d.take (d.length - 9*i)).drop (d.length - 9*i - 9):=by rw[List.drop_append,Vq,Yj (by rw[Vq];omega),List.nil_append,show z+(d.length - 9*i) - 9 - z=d.length - 9*i - 9 by omega]
  rw[q]
 rw[show z+(d.length - 9*i) - 9=0 by omega,Y9,NT,show d.length - 9*i - 9=0 by omega,Y9]
theorem ZH(d:List UInt8)(hd:∀c∈d,P8 c):Od (H5 (Uy d))=padD d:=by
 have j:∀k,k<=I6 d.length->Od (H5 ((List.range k).map (chunk d)))=(padD d).drop (9*I6 d.length - 9*k):=by
  intro k
  induction k with
  | zero=>intro _;rw[Yj (by rw[Pw];omega)];rfl
  | succ k ih=>
    intro E;have e:Od (H5 ((List.range (k+1)).map (chunk d)))=Od (Xu (chunk d k) 9)++Od (H5 ((List.range k).map (chunk d))):=by
     simp[H5,Od,List.range_succ]
    rw[e,ih (by omega),KI d k (by omega)];have hl:(((padD d).take (9*I6 d.length - 9*k)).drop (9*I6 d.length - 9*k - 9)).length=9:=by
     rw[Yr,J7,Pw];omega
    rw[XI _ (fun c hc=>QF d hd c (Yp (Zz hc))) hl];rw[show 9*I6 d.length - 9*(k+1)=9*I6 d.length - 9*k - 9 by omega];generalize padD d=p;have q:9*I6 d.length - 9*k - 9<=9*I6 d.length - 9*k:=by omega
    generalize 9*I6 d.length - 9*k - 9=a at *;generalize 9*I6 d.length - 9*k=b at *
    conv=>rhs;rw[<-Y2 b p]
    rw[List.drop_append]
    by_cases hb:b<=p.length
    ·rw[J7,Yw hb,show a - b=0 by omega,Y9]
    have:(p.drop b)=[]:=Yj (by omega);rw[this];simp
 have h:=j (I6 d.length) leR;rw[show 9*I6 d.length - 9*I6 d.length=0 by omega,Y9]at h;exact h
theorem Pr(k:Nat)(l:List UInt8):N2 (List.replicate k 48++l)=N2 l:=by
 unfold N2
 induction k with
 | zero=>simp
 | succ k ih=>rw[Vv,Y4,Ve];simp[ih]
theorem Dk(l:List Nat):textD (l++[0])=textD l:=by
 unfold textD H5 Od;have e:(Xu 0 9).map UInt8.ofNat=List.replicate 9 48:=by decide
 simp only[Z0,Vr,List.reverse_nil,List.nil_append,Y4,Zs,Yk,e];exact Pr 9 _
theorem Wi(l:List Nat):textD (O0 l)=textD l:=by
 generalize hn:l.length=n
 induction n generalizing l with
 | zero=>rw[Jt hn];rfl
 | succ n ih=>
   obtain⟨f,x,rfl⟩:∃f x,l=f++[x]:=⟨l.dropLast,l.getLast (by intro h;rw[h]at hn;simp at hn),(Y5 _).symm⟩
   by_cases hx:x=0
   ·subst hx;rw[Ni,Dk];exact ih f (by simpa using hn)
   rw[Ev _ _ hx]
theorem Ai(d:List UInt8)(hd:∀c∈d,P8 c)(h0:d.head? ≠ some 48):textD (O0 (Uy d))=d:=by
 rw[Wi];unfold textD;rw[ZH d hd];unfold padD;rw[Pr];unfold N2
 cases d with
 | nil=>rfl
 | cons c l=>
   rw[Ve];have:¬ c=48:=fun e=>h0 (by rw[e];rfl);simp[this]
theorem IY(l:List Nat):∀c∈textD l,P8 c:=by
 intro c E;unfold textD N2 at E;have h:=(List.dropWhile_sublist (fun x:UInt8=>x==48)).subset E;unfold Od at h;rw[Yu]at h;obtain⟨x,hx,rfl⟩:=h;unfold H5 at hx;rw[List.mem_flatMap]at hx;obtain⟨y,_,q⟩:=hx;unfold Xu at q;rw[Yu]at q;obtain⟨j,_,rfl⟩:=q;have hd:48<=dg y j/\dg y j<=57:=by unfold dg;omega
 unfold P8;rw[UInt8.toNat_ofNat_of_lt' (by show _<256;omega)];exact hd
theorem DS:G9 (Kc [49])=1:=by kernel_rfl
theorem DN:Ol (Kc [49])=true:=by kernel_rfl
end Go.Proofs.YtfkagjelljnpdaaGreatDoor.Q
