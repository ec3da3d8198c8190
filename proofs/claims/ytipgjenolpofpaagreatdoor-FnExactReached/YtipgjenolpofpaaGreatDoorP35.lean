import Derived.Test.YtipgjenolpofpaaGreatDoorP32
import Derived.Test.YtipgjenolpofpaaGreatDoorP33
import Derived.Test.YtipgjenolpofpaaGreatDoorP34
import Derived.Maps.AppendAt
set_option maxRecDepth 100000
set_option maxHeartbeats 16000000
namespace Go.Proofs.YtipgjenolpofpaaGreatDoor
open ChangeShapes WideShapes ChangeAt RowKit Proofs.Tryz
theorem B4 (vs vf vt:Value)(S:List (List UInt8))(num:Tm->Bool)(F:List Fn)(T:List Tm)(n:Nat)(t:Tm)(vk:Value)(w:World)(hk:U5 w vk t.kids)(ho:¬ (1<=t.op/\t.op<=47)) :
 Calls prog 41 #[.agg #[vs,vf,vt],.int .i64 (n:Nat),.agg #[.int .i64 t.op,.string (Oo t.sort),.string (Oo t.text),.int .i64 t.a,.int .i64 t.b,vk]] w fun e w'=>e=.returned (.bool (Kc S num F T n t))/\Up w w':=by
 obtain⟨M,K,rfl,j,A,-⟩:=hk;obtain⟨o,so,J,a,b,I⟩:=t;simp only at j A ho ⊢;have d:Hid (Kf ⟨o,so,J,a,b,I⟩=false):=by unfold Hid Kf;simp only;rw[Jg ho];rfl
 have O:=Hd A;clear ho;have E:Hid (Up w ((w.alloc (.cells #[vs,vf,vt] 32)).alloc (.cells #[.int .i64 o,.string (Oo so),.string (Oo J),.int .i64 a,.int .i64 b,.slice M I.length K] 57))):=((Jh _ _).alloc Of _).alloc (by rw[Ji];omega) _
 go_in
 go_wp2_with fail
 refine (Ge ⟨o,so,J,a,b,I⟩ M K _ j O.o).mono ?_;rw[d.o];rintro e U ⟨rfl,h⟩;have G:=E.up h;clear h
 go_wp2
 go_ret
 exact⟨Oz (by unfold Kc;rw[d.o];rfl),G.o⟩
theorem B3 (vs vf vt:Value)(S:List (List UInt8))(num:Tm->Bool)(F:List Fn)(T:List Tm)(n:Nat)(t:Tm)(vk:Value)(w:World)(hS:O8 w vs S)(hF:Eh w vf F)(hT:Km w vt T)(hk:U5 w vk t.kids)(hn:n<=T.length)(hTl:T.length<=1048576)(hFl:F.length<=1048576)(hkl:t.kids.length<=1048576)
 (hzs:t.sort.length<=1048576) (hzt:t.text.length<=1048576) (hz:∀ u∈T,u.sort.length<=1048576) (hnum:∀ w',Up w w'->Calls prog 71 #[.agg #[.int .i64 t.op,.string (Oo t.sort),.string (Oo t.text),.int .i64 t.a,.int .i64 t.b,vk]] w' fun e w''=>e=.returned (.bool (num t))/\Below w'.heap.size w' w'') :
 Calls prog 41 #[.agg #[vs,vf,vt],.int .i64 (n:Nat),.agg #[.int .i64 t.op,.string (Oo t.sort),.string (Oo t.text),.int .i64 t.a,.int .i64 t.b,vk]] w fun e w'=>e=.returned (.bool (Kc S num F T n t))/\Up w w':=by
 by_cases d:¬ (1<=t.op/\t.op<=47)
 ·exact B4 vs vf vt S num F T n t vk w hk d
 rcases (show (1<=t.op/\t.op<=5)∨(6<=t.op/\t.op<=10)∨(11<=t.op/\t.op<=15)∨(16<=t.op/\t.op<=20)∨(21<=t.op/\t.op<=47) by omega) with h|h|h|h|h
 ·exact YD vs vf vt S num F T n t vk w hS hF hT hk hn hTl hFl hkl h hzs hzt hz hnum
 ·exact YC vs vf vt S num F T n t vk w hS hF hT hk hn hTl hFl hkl h hzs hzt hz hnum
 ·exact YF vs vf vt S num F T n t vk w hS hF hT hk hn hTl hFl hkl h hzs hzt hz hnum
 ·exact YL vs vf vt S num F T n t vk w hS hF hT hk hn hTl hFl hkl h hzs hzt hz hnum
 exact YM vs vf vt S num F T n t vk w hS hF hT hk hn hTl hFl hkl h hzs hzt hz hnum
def He (L:List (List UInt8)):Bool:=(List.range L.length).all (fun i=>match L[i]? with|none=>true|some s=>E5 s&&!On (L.take i) s)
def N4 (S:List (List UInt8))(F:List Fn):Bool:=decide (S.length+F.length<=300)&&He (S++F.map (·.name))&&F.all (Kj (On S))
theorem freshL_no {L:List (List UInt8)}{i:Nat}(h:i<L.length)(hb:(E5 L[i]&&!On (L.take i) L[i])=false):He L=false:=by
 unfold He;rw[J9];intro d;have:=Ju.1 d i (Y6.2 h);rw[Jf h] at this;simp only at this;rw[hb] at this
 cases this
theorem OX {L:List (List UInt8)}(h:∀ i (h:i<L.length),(E5 L[i]&&!On (L.take i) L[i])=true):He L=true:=by
 unfold He;rw[Ju];intro i d;have d:=Y6.1 d;rw[Jf d];exact h i d
theorem GK {w:World}{p:Option Addr}{n c:Nat}{L:List (List UInt8)}(h:O8 w (.slice p n c) L){k:Nat}(hk:k<=L.length):O8 w (.slice p k c) (L.take k):=by
 obtain⟨E,j,e,A,d,h3⟩:=h;simp only[Value.slice.injEq] at e;obtain⟨rfl,rfl,rfl⟩:=e;refine⟨p,c,by rw[J4,Zi hk],by rw[J4,Zi hk];omega,d,?_⟩
 rcases h3 with h3|⟨b,e,hl,hc⟩
 ·exact .inl (by rw[h3,List.take_nil])
 exact .inr ⟨b,e,hl,fun i hi=>by
  rw[J4] at hi;rw[hc i (by omega),List.getElem_take]⟩
theorem Mo {ops:Array Oper}{rest:List Oper}{o:Oper}{a:Act}{Q:Exit->Act->World->Prop}{W:World}{base n c:Nat}{v:Value}{xs:List Value}{ad:Addr}{L:List (List UInt8)}(hgd:o.guard=none)(s y:Operand)
 (ho:o.op=.call { callee:=.builtin .append,args:=#[s,y],argTypes:=#[22,22] }) (hs:a.eval s=v) (hown:W.ownsRow base 9 1 v n xs)
 (hx:a.eval y=.slice (some ad) L.length c) (hc:∀ i (h:i<L.length),W.cell? (ad.add i)=some (.string (Oo L[i]))) (hn:n+L.length<=1000000000) (hbase:base<=W.heap.size)
 (h:∀ v' W',W'.ownsRow base 9 1 v' (n+L.length) (xs++U3 L)->W.grownBy W' v.ownBlock->wpList prog ops Q rest (a.put o.dst v') W') :
 wpList prog ops Q (o::rest) a W:=by
 obtain⟨i0,d,A,E,G⟩:=R1;obtain⟨v',w',M,J,h3,_,_⟩:=run_append_own_at (P:=prog) W base 22 o.type 9 i0 _ 1 16 underlying22 d A E G rfl (by decide) v n xs hown ad L.length c (U3 L) (by simp[U3]) (fun j u hu=>by
  have I:j<L.length:=by have:=(Zr.1 hu).1;simpa[U3] using this
  rw[hc j I,<-hu];simp[U3,List.getElem?_eq_getElem I]) (fun u hu=>by
  simp only[U3,Zm] at hu;obtain⟨x,_,rfl⟩:=hu;rfl) (by unfold maxLen;omega) (by omega) hbase
 refine wpList_plain hgd fun K hK=>?_;unfold Oper.wp;simp[execOp,ho,resolve,invoke,builtin,hs,hx,M,Result.andThen];exact hK _ _ (h v' w' J h3)
theorem Lt (vs vf vt:Value)(S:List (List UInt8))(F:List Fn)(w:World)(hS:O8 w vs S)(hF:Eh w vf F)(hz:∀ s∈S,s.length<=1048576)(hzf:∀ f∈F,f.name.length<=1048576/\f.sort.length<=1048576/\∀ a∈f.args,a.length<=1048576)(hl:S.length<=1048576)(hfl:F.length<=1048576)(hvs:∃ ad n c,vs=.slice (some ad) n c) :
 Calls prog 40 #[.agg #[vs,vf,vt]] w fun e w'=>e=.returned (.bool (N4 S F))/\Up w w':=by
 have HS:=Hd hS;have HF:=Hd hF;have HZ:=Hd hz;have j6:=Hd hzf;obtain⟨ad,n0,c0,e0⟩:=hvs;obtain⟨ps,cs,rfl,s1,s2,s3⟩:=hS;simp only[Value.slice.injEq] at e0;obtain⟨rfl,rfl,rfl⟩:=e0;obtain⟨pf,cf,rfl,f1,f2,f3⟩:=hF;have l5:=Hd s3;have h9:=Hd f3;unfold maxLen at s2 f2;clear hz hzf s3 f3;have l9:Hid (Bx (w.alloc (.cells #[.slice (some ad) S.length cs,.slice pf F.length cf,vt] 32)) w.heap.size [.slice (some ad) S.length cs,.slice pf F.length cf,vt]):=Oi w _ _;have e7:Hid (Up w (w.alloc (.cells #[.slice (some ad) S.length cs,.slice pf F.length cf,vt] 32))):=Oy _ _
 by_cases U:¬ (S.length+F.length<=300)
 ·have G:Hid (N4 S F=false):=by unfold Hid N4;rw[Jg U];rfl
  have y:decide ((300:Int)<(S.length:Int)+(F.length:Int))=true:=dT (by omega)
  have y':(300:Int)<(S.length:Int)+(F.length:Int):=by omega
  go_in
  go_wp2
  go_ret
  exact⟨Oz G.o.symm,e7.o⟩
 have U:=Decidable.not_not.1 U;have y':(S.length:Int)+(F.length:Int)<=300:=by omega
 have O:Hid (N4 S F=(He (S++F.map (·.name))&&F.all (Kj (On S)))):=by unfold Hid N4;rw[Jb U];rfl
 go_in
 go_wp2_with (at_builtin;refine Mo (n:=0) (base:=w.heap.size+1) (xs:=[]) (L:=S) rfl _ _ rfl rfl ?own rfl ?hc ?hn ?hb ?_)
 case own=>exact⟨rfl,.inl ⟨rfl,rfl⟩⟩
 case hc=>
  intro i hi
  rcases l5.o with e0|⟨b,e,hb,hc⟩
  ·rw[e0] at hi;cases hi
  cases e
  rw[show ((⟨b,0,none⟩:Addr).add i)=⟨b,i,none⟩ by unfold Addr.add;split<;>simp_all];exact (e7.o.cell (p:=⟨b,i,none⟩) hb).trans (hc i hi)
 case hn=>omega
 case hb=>rw[Ji];omega
 intro v2 w2 b9 E;have e8:Hid (Below (w.heap.size+1) (w.alloc (.cells #[.slice (some ad) S.length cs,.slice pf F.length cf,vt] 32)) w2):=⟨E.os,E.tape,E.output,E.size,fun k hk=>E.block k (by rw[Ji];exact hk) (fun e=>by cases e)⟩;have f9:=Hd b9;have g0:Hid (Bx w2 w.heap.size [.slice (some ad) S.length cs,.slice pf F.length cf,vt]):=l9.o.bl (N:=w.heap.size+1) (by omega) e8.o;have h8:Hid (Up w w2):=e7.o.trans (e8.o.mono (by omega));have d2:Hid (w.heap.size+1<=w2.heap.size):=by have:=E.size;rw[Ji] at this;exact this
 clear b9 E;obtain⟨p3,c3,rfl⟩:=En f9.o;obtain⟨M,hM⟩:=O1 (F.map (·.name));have d0:Hid (M.length=F.length):=by unfold Hid;rw[<-hM];simp
 have l2:Hid (∀ k (h:k<F.length) (h':k<M.length),M[k]=F[k].name):=by
  intro k h h';subst hM;simp
 rw[hM] at O;have HM:=Hd hM;clear hM;obtain⟨N,hN⟩:=O1 (w.heap.size+1);have HN:=Hd hN;rw[hN] at f9 e8 d2;clear hN;have b0:=g0.o.c3.1;have b1:=g0.o.c3.2.1
 go_wp2_with fail
 clear b0 b1
 go_loopw [3,25] (fun v i wr=>∃ k:Nat,k<=F.length/\i=.int .i64 (k:Nat)/\wr.ownsRow N 9 1 v (S.length+k) (U3 (S++M.take k))/\Below N w2 wr) (fun _ i _=>F.length - (intOf i).toNat)
 case atStart=>exact⟨0,Jy _,rfl,by simpa using f9.o,Jh _ _⟩
 obtain⟨k,hk,rfl,b8,g6⟩:=hrel;have K:=Hd b8;have a8:=Hd g6;have Y:Hid (Up w wr):=h8.o.trans (g6.mono (by have:=HN.o;omega));obtain⟨p7,c7,rfl⟩:=En b8;clear b8 g6
 by_cases I:k<F.length
 ·rcases h9.o with e0|⟨bf,rfl,J,b6⟩
  ·rw[e0] at I;cases I
  obtain⟨k0,⟨va,k1,pa,ca,rfl,j8,m6,-⟩,k2⟩:=b6 k I;have k0:=(Y.o.cell (p:=⟨bf,k*3,none⟩) J).trans k0;have k1:=(Y.o.cell (p:=⟨bf,k*3+1,none⟩) J).trans k1;have k2:=(Y.o.cell (p:=⟨bf,k*3+2,none⟩) J).trans k2;have i0:(0:Int)<=(k:Int):=by omega
  have i1:(k:Int)<(F.length:Int):=by omega
  clear b6;have i6:Hid (M.take (k+1)=M.take k++[F[k].name]):=by
   have h:=d0.o;unfold Hid;rw[Yd (by omega),l2.o k I (by omega)]
  generalize F[k]=x at k0 k1 k2 i6
  go_wp2_with (at_builtin;refine Ns (t:=Oo x.name) (n:=S.length+k) (base:=N) (xs:=U3 (S++M.take k)) rfl _ _ rfl rfl ?own _ rfl ?hH ?hn ?hb ?_)
  case own=>exact K.o.alloc _
  case hH=>rw[Ji]
  case hn=>omega
  case hb=>have:=a8.o.size;have:=d2.o;rw[Ji];omega
  intro g5 c5 w5 c6 e5 j9;have c8:Hid (Below N w2 w5):=Nq (a8.o.alloc (by have:=a8.o.size;have:=d2.o;omega) _) (K.o.alloc _) e5 (by have:=a8.o.size;have:=d2.o;rw[Ji];omega);have l3:Hid (w5.ownsRow N 9 1 (.slice (some ⟨g5,0,none⟩) (S.length+k+1) c5) (S.length+(k+1)) (U3 (S++M.take (k+1)))):=by
   unfold Hid;rw[i6.o,<-List.append_assoc];have e:U3 (S++M.take k++[x.name])=U3 (S++M.take k)++[.string (Oo x.name)]:=by simp[U3]
   rw[e];exact c6
  clear c6 e5 j9
  go_wp2
  go_roundw
  case rel=>exact⟨k+1,by omega,by go_num,l3.o,c8.o⟩
  simp[intOf];omega
 obtain rfl:k=F.length:=by omega
 have e1:Hid (O8 wr (.slice p7 (S.length+F.length) c7) (S++M)):=by
  have h:=K.o;rw[<-d0.o,Yl] at h;rw[<-d0.o];exact I2 h (by simp)
 have j5:Hid (∀ s∈S++M,s.length<=1048576):=fun s hs=>by
  rcases Z6.1 hs with h|h
  ·exact HZ.o s h
  rw[<-HM.o] at h;obtain⟨f,hf,rfl⟩:=Zm.1 h;exact (j6.o f hf).1
 obtain⟨A,g4⟩:=O1 (S++M);have a7:Hid (A.length=S.length+F.length):=by unfold Hid;rw[<-g4,Y8,d0.o]
 rw[g4] at e1 O j5;clear g4 I hk K;have d3:Hid (Bx wr w.heap.size [.slice (some ad) S.length cs,.slice pf F.length cf,vt]):=g0.o.bl (N:=N) (by have:=HN.o;omega) a8.o
 go_wp2_with fail
 obtain⟨W4,rfl⟩:∃ W4,W4=wr:=⟨_,rfl⟩;have o2:(A.length:Int)=(S.length:Int)+(F.length:Int):=by have:=a7.o;omega
 go_loopw [37] (fun i wq=>∃ k:Nat,k<=A.length/\i=.int .i64 (k:Nat)/\(∀ j (h:j<A.length),j<k->(E5 A[j]&&!On (A.take j) A[j])=true)/\Up W4 wq) (fun i _=>A.length - (intOf i).toNat)
 case atStart=>exact⟨0,Jy _,rfl,fun j _ h=>absurd h (J2 _),Jh _ _⟩
 obtain⟨k,hk,rfl,hp,d5⟩:=hrel;have HP:=Hd hp;have f5:=Hd d5;have f8:=Y.up d5;have e6:=Hd (e1.o.bl d5);clear hp d5
 by_cases I:k<A.length
 ·obtain⟨bs,rfl,k7⟩:=Nn e6.o (by omega);have ck:=k7 k I;clear k7;have i0:(0:Int)<=(k:Int):=by omega
  have i1:(k:Int)<(S.length:Int)+(F.length:Int):=by omega
  have i2:k<S.length+F.length:=by omega
  have g7:(Oo A[k]).size<=maxLen:=by
   have:=j5.o _ (Jw I)
   show A[k].toArray.size<=_
   unfold maxLen;simp;omega
  have d1:Hid ((E5 A[k]&&!On (A.take k) A[k])=false->N4 S F=false):=fun h=>by rw[O.o,freshL_no I h];rfl
  have e3:Hid ((E5 A[k]&&!On (A.take k) A[k])=true->∀ j (h:j<A.length),j<k+1->(E5 A[j]&&!On (A.take j) A[j])=true):=fun h j hj h2=>by
   rcases J0.1 h2 with h3|rfl
   ·exact HP.o j hj h3
   exact h
  have l8:=Hd (GK e6.o (k:=k) hk);generalize A[k]=s at ck g7 d1 e3
  go_wp2_with fail
  refine (Ej (Oo s) _ g7).mono ?_;rw[Ou]
  cases d8:E3 s
  ·have G:Hid (N4 S F=false):=d1.o (by unfold E5;rw[d8];rfl);clear d8;rintro e w5 ⟨rfl,rfl⟩
   go_wp2
   go_ret
   exact⟨Oz G.o.symm,f8.o⟩
  have l6:=Hd d8;clear d8;rintro e w5 ⟨rfl,rfl⟩
  go_wp2_with fail
  refine (Tx (Oo s) _ g7).mono ?_;rw[Ou]
  cases d9:Ga s
  ·have l7:=Hd d9;clear d9;rintro e w6 ⟨rfl,Z⟩;have h7:=f5.up Z;have b3:Hid (Up w w6):=Y.o.trans (h7.o.mono Y.o.size);have j2:=Hd (l8.o.bl Z);have o3:S.length+F.length<=c7:=by
    obtain⟨p',c',e,h1,h2,_⟩:=e6.o;simp only[Value.slice.injEq] at e;have:=a7.o;omega
   clear Z
   go_wp2_with fail
   refine (Gk _ (A.take k) (Oo s) _ j2.o).mono ?_;rw[Ou]
   cases d6:On (A.take k) s
   ·have HR:=Hd (e3.o (by unfold E5;rw[l6.o,l7.o,d6];rfl));clear d6;rintro e w7 ⟨rfl,rfl⟩
    go_wp2
    go_roundw
    case rel=>exact⟨k+1,by omega,by go_num,HR.o,h7.o⟩
    simp[intOf];omega
   have G:Hid (N4 S F=false):=d1.o (by rw[d6];simp);clear d6;rintro e w7 ⟨rfl,rfl⟩
   go_wp2
   go_ret
   exact⟨Oz G.o.symm,b3.o⟩
  have G:Hid (N4 S F=false):=d1.o (by unfold E5;rw[d9];simp);clear d9;rintro e w6 ⟨rfl,Z⟩;have b3:=f8.up Z;clear Z
  go_wp2
  go_ret
  exact⟨Oz G.o.symm,b3.o⟩
 have i7:Hid (N4 S F=F.all (Kj (On S))):=by
  unfold Hid;rw[O.o,OX (fun i hi=>HP.o i hi (by omega))];rfl
 have m7:=(d3.o.bl d3.o.lt f5.o).c3;obtain⟨b0,b1,b2⟩:=m7;have z3:¬ (k:Int)<(S.length:Int)+(F.length:Int):=by omega
 have z4:¬ k<S.length+F.length:=by omega
 obtain⟨W5,rfl⟩:∃ W5,W5=wr:=⟨_,rfl⟩;have j4:Hid (Bx W5 w.heap.size [.slice (some ad) S.length cs,.slice pf F.length cf,vt]):=d3.o.bl d3.o.lt f5.o
 go_wp2_with fail
 clear b0 b1 b2
 go_loopw [60] (fun i wq=>∃ m:Nat,m<=F.length/\i=.int .i64 (m:Nat)/\(∀ j (h:j<F.length),j<m->Kj (On S) F[j]=true)/\Up W5 wq) (fun i _=>F.length - (intOf i).toNat)
 case atStart=>exact⟨0,Jy _,rfl,fun j _ h=>absurd h (J2 _),Jh _ _⟩
 obtain⟨m,hm,rfl,k8,d4⟩:=hrel;have i8:=Hd k8;have c8:=Hd d4;have d:=f8.up d4;obtain⟨b0,b1,b2⟩:=(j4.o.bl j4.o.lt d4).c3;clear k8 d4
 by_cases b7:m<F.length
 ·rcases h9.o with e0|⟨bf,rfl,J,b6⟩
  ·rw[e0] at b7;cases b7
  obtain⟨k0,⟨va,k1,k9⟩,k2⟩:=b6 m b7;have j3:=Hd (k9.bl d.o);obtain⟨pa,ca,rfl,j8,m6,-⟩:=k9;have k0:=(d.o.cell (p:=⟨bf,m*3,none⟩) J).trans k0;have k1:=(d.o.cell (p:=⟨bf,m*3+1,none⟩) J).trans k1;have k2:=(d.o.cell (p:=⟨bf,m*3+2,none⟩) J).trans k2;have j0:(0:Int)<=(m:Int):=by omega
  have j1:(m:Int)<(F.length:Int):=by omega
  have g1:=Hd (j6.o _ (Jw b7));clear b6;have e2:Hid (Kj (On S) F[m]=false->N4 S F=false):=fun h=>by
   rw[i7.o,J9];intro h2;have:=Ju.1 h2 _ (Jw b7);rw[h] at this
   cases this
  have b4:Hid (Kj (On S) F[m]=true->∀ j (h:j<F.length),j<m+1->Kj (On S) F[j]=true):=fun h j hj h2=>by
   rcases J0.1 h2 with h3|rfl
   ·exact i8.o j hj h3
   exact h
  generalize F[m]=x at k0 k1 k2 j3 g1 e2 b4 j8;have V:Hid (Up wr (wr.alloc (.cells #[.string (Oo x.name),.slice pa x.args.length ca,.string (Oo x.sort)] 47))):=Oy _ _;have l1:w.heap.size<wr.heap.size:=Ye _ _ b0
  go_wp2_with fail
  refine (Th _ _ S x _ ((HS.o.bl d.o).bl V.o) (j3.o.bl V.o) g1.o.2.2 g1.o.2.1).mono ?_
  cases d7:Kj (On S) x
  ·have G:=Hd (e2.o d7);clear d7;rintro e w8 ⟨rfl,b5⟩;have e9:Hid (Up w w8):=d.o.trans ((V.o.trans (b5.mono V.o.size)).mono d.o.size);clear b5
   go_wp2
   go_ret
   exact⟨Oz G.o.symm,e9.o⟩
  have HR:=Hd (b4.o d7);clear d7;rintro e w8 ⟨rfl,b5⟩;have e9:Hid (Up W5 w8):=c8.o.trans ((V.o.trans (b5.mono V.o.size)).mono c8.o.size);clear b5
  go_wp2
  go_roundw
  case rel=>exact⟨m+1,by omega,by go_num,HR.o,e9.o⟩
  simp[intOf];omega
 have G:Hid (N4 S F=true):=by
  unfold Hid;rw[i7.o,Ju];intro x hx;obtain⟨j,hj,rfl⟩:=Ya hx;exact i8.o j hj (by omega)
 have z5:¬ (m:Int)<(F.length:Int):=by omega
 go_wp2
 go_ret
 exact⟨Oz G.o.symm,d.o⟩
def Hg (S:List (List UInt8))(num:Tm->Bool)(F:List Fn)(T:List Tm):Bool:=decide (T.length<=3000)&&N4 S F&&(List.range T.length).all (fun i=>match T[i]? with|none=>true|some t=>Kc S num F T i t&&decide (Gg (T.take i) t<0))
theorem FL {P:Program}{ops:Array Oper}{Q:Exit->Act->World->Prop}{md:Region.Mode}{S:World->Prop}{i d:Nat}{oi:Oper}{v:Value}{fuel:Nat}{listed:Array Bool}{a:Act}{w:World}(hi:ops[i]? = some oi)(hd:oi.dst=some d)
 (hs:Region.noSelect ops=true) (hf:Region.free md ops listed i=true) (hr:(Region.ready md ops listed).contains i=true)
 (hQ:∀ c a w,Q (.panic c) (a.put (some d) v) w->Q (.panic c) a w) (hy:YieldsIf P ops S oi v a) (hS:S w)
 (h:wpAnyH P md ops Q S fuel (listed.setIfInBounds i true) (a.put (some d) v) w):wpAnyH P md ops Q S (fuel+1) listed a w:=by
 rw[<-hd] at hQ h;exact wpAnyH_take hi hs hf hr hQ hy hS h
theorem tk {P:Program}{ops:Array Oper}{Q:Exit->Act->World->Prop}{md:Region.Mode}{S:World->Prop}(i d:Nat){oi:Oper}{v:Value}{fuel:Nat}{listed:Array Bool}{a:Act}{w:World}(hi:ops[i]? = some oi)(hd:oi.dst=some d)
 (hc:(Region.noSelect ops&&(Region.free md ops listed i&&(Region.ready md ops listed).contains i))=true) (hQ:∀ c a w,Q (.panic c) (a.put (some d) v) w->Q (.panic c) a w) (hy:YieldsIf P ops S oi v a) (hS:S w)
 (h:wpAnyH P md ops Q S fuel (listed.setIfInBounds i true) (a.put (some d) v) w):wpAnyH P md ops Q S (fuel+1) listed a w:=by
 rw[J3,J3] at hc;exact FL hi hd hc.1 hc.2.1 hc.2.2 hQ hy hS h
theorem IJ {S:List (List UInt8)}{num:Tm->Bool}{F:List Fn}{T:List Tm}{i:Nat}(h:i<T.length)(hb:(Kc S num F T i T[i]&&decide (Gg (T.take i) T[i]<0))=false):Hg S num F T=false:=by
 unfold Hg;have:(List.range T.length).all (fun i=>match T[i]? with|none=>true|some t=>Kc S num F T i t&&decide (Gg (T.take i) t<0))=false:=by
  rw[J9];intro d;have:=Ju.1 d i (Y6.2 h);rw[Jf h] at this;simp only at this;rw[hb] at this
  cases this
 rw[this,Y0]
theorem EO {S:List (List UInt8)}{num:Tm->Bool}{F:List Fn}{T:List Tm}(h3:T.length<=3000)(hn:N4 S F=true)(h:∀ i (h:i<T.length),(Kc S num F T i T[i]&&decide (Gg (T.take i) T[i]<0))=true):Hg S num F T=true:=by
 unfold Hg;rw[Jb h3,hn,Za,Za,Ju];intro i d;have d:=Y6.1 d;rw[Jf d];exact h i d
theorem VQ {w:World}{p:Option Addr}{n c:Nat}{L:List Tm}(h:Km w (.slice p n c) L){k:Nat}(hk:k<=L.length):Km w (.slice p k c) (L.take k):=by
 obtain⟨E,j,e,A,d,h3⟩:=h;simp only[Value.slice.injEq] at e;obtain⟨rfl,rfl,rfl⟩:=e;refine⟨p,c,by rw[J4,Zi hk],by rw[J4,Zi hk];omega,d,?_⟩
 rcases h3 with h3|⟨b,e,hl,hc⟩
 ·exact .inl (by rw[h3,List.take_nil])
 exact .inr ⟨b,e,hl,fun i hi=>by
  rw[J4] at hi;have:=hc i (by omega);rw[List.getElem_take];exact this⟩
theorem Lc (vs vf vt:Value)(S:List (List UInt8))(num:Tm->Bool)(F:List Fn)(T:List Tm)(w:World)(hS:O8 w vs S)(hF:Eh w vf F)(hT:Km w vt T)(hz:∀ s∈S,s.length<=1048576)(hzf:∀ f∈F,f.name.length<=1048576/\f.sort.length<=1048576/\∀ a∈f.args,a.length<=1048576)(hzt:∀ t∈T,t.sort.length<=1048576/\t.text.length<=1048576/\t.kids.length<=1048576)(hl:S.length<=1048576)(hfl:F.length<=1048576)(htl:T.length<=1048576)(hvs:∃ ad n c,vs=.slice (some ad) n c)
 (hnum:∀ t∈T,∀ vk w',Up w w'->Calls prog 71 #[.agg #[.int .i64 t.op,.string (Oo t.sort),.string (Oo t.text),.int .i64 t.a,.int .i64 t.b,vk]] w' fun e w''=>e=.returned (.bool (num t))/\Below w'.heap.size w' w'') :
 Calls prog 9 #[.agg #[vs,vf,vt]] w fun e w'=>e=.returned (.bool (Hg S num F T))/\Up w w':=by
 have HS:=Hd hS;have HF:=Hd hF;have HT:=Hd hT;have HZ:=Hd hz;have f5:=Hd hzf;have b9:=Hd hzt;have d7:=Hd hnum;have e9:=Hd hvs;obtain⟨pt,ct,rfl,t1,t2,t3⟩:=hT;have e7:=Hd t3;unfold maxLen at t2;clear hS hF hz hzf hzt hvs hnum t3;have d9:Hid (Bx (w.alloc (.cells #[vs,vf,.slice pt T.length ct] 32)) w.heap.size [vs,vf,.slice pt T.length ct]):=Oi w _ _;have U:Hid (Up w (w.alloc (.cells #[vs,vf,.slice pt T.length ct] 32))):=Oy _ _
 by_cases h3:¬ (T.length<=3000)
 ·have G:Hid (Hg S num F T=false):=by unfold Hid Hg;rw[Jg h3];rfl
  have y':(3000:Int)<(T.length:Int):=by omega
  go_in
  go_wp2
  go_ret
  exact⟨Oz G.o.symm,U.o⟩
 have h3:=Decidable.not_not.1 h3;have y':(T.length:Int)<=3000:=by omega
 go_in
 go_wp2_with fail
 refine (Lt vs vf _ S F _ (HS.o.bl U.o) (HF.o.bl U.o) HZ.o f5.o hl hfl e9.o).mono ?_
 cases c6:N4 S F
 ·have G:Hid (Hg S num F T=false):=by unfold Hid Hg;rw[c6,Y0,Uj]
  clear c6;rintro e w2 ⟨rfl,M⟩;have V:=U.up M;clear M
  go_wp2
  go_ret
  exact⟨Oz G.o.symm,V.o⟩
 have e6:=Hd c6;clear c6;rintro e w2 ⟨rfl,M⟩;have V:=U.up M;have a7:=Hd (d9.o.bl d9.o.lt M);clear M;have b2:=a7.o.c3.2.2
 go_wp2_with fail
 clear b2
 go_loopw [16] (fun i wr=>∃ k:Nat,k<=T.length/\i=.int .i64 (k:Nat)/\(∀ j (h:j<T.length),j<k->(Kc S num F T j T[j]&&decide (Gg (T.take j) T[j]<0))=true)/\Up w2 wr) (fun i _=>T.length - (intOf i).toNat)
 case atStart=>exact⟨0,Jy _,rfl,fun j _ h=>absurd h (J2 _),Jh _ _⟩
 obtain⟨k,hk,rfl,hp,b4⟩:=hrel;have HP:=Hd hp;have e5:=Hd b4;have E:=V.up b4;obtain⟨b0,b1,b2⟩:=(a7.o.bl a7.o.lt b4).c3;have e1:=Hd (a7.o.bl a7.o.lt b4);clear hp b4
 by_cases b5:k<T.length
 ·rcases e7.o with e0|⟨bt,rfl,O,e3⟩
  ·rw[e0] at b5;cases b5
  obtain⟨c0,c1,c2,c3,c4,va,c5,e4⟩:=e3 k b5;have d0:=Hd e4;obtain⟨pa,ca,rfl,f9,i6,-⟩:=e4;have d6:Hid (∀ W,Up w W->W.cell? ⟨bt,k*6,none⟩=some (.int .i64 T[k].op)/\W.cell? ⟨bt,k*6+1,none⟩=some (.string (Oo T[k].sort))/\W.cell? ⟨bt,k*6+2,none⟩=some (.string (Oo T[k].text))/\W.cell? ⟨bt,k*6+3,none⟩=some (.int .i64 T[k].a)/\W.cell? ⟨bt,k*6+4,none⟩=some (.int .i64 T[k].b)/\W.cell? ⟨bt,k*6+5,none⟩=some (.slice pa T[k].kids.length ca)):=fun W h=>
   ⟨(h.cell (p:=⟨bt,k*6,none⟩) O).trans c0,(h.cell (p:=⟨bt,k*6+1,none⟩) O).trans c1,(h.cell (p:=⟨bt,k*6+2,none⟩) O).trans c2,(h.cell (p:=⟨bt,k*6+3,none⟩) O).trans c3,(h.cell (p:=⟨bt,k*6+4,none⟩) O).trans c4,(h.cell (p:=⟨bt,k*6+5,none⟩) O).trans c5⟩
  clear c0 c1 c2 c3 c4 c5 e3;have i0:(0:Int)<=(k:Int):=by omega
  have i1:(k:Int)<(T.length:Int):=by omega
  have i2:(k:Int)<=(ct:Int):=by omega
  have i3:k<=ct:=by omega
  have b8:Hid ((Kc S num F T k T[k]&&decide (Gg (T.take k) T[k]<0))=false->Hg S num F T=false):=IJ b5;have a8:Hid ((Kc S num F T k T[k]&&decide (Gg (T.take k) T[k]<0))=true->∀ j (h:j<T.length),j<k+1->(Kc S num F T j T[j]&&decide (Gg (T.take j) T[j]<0))=true):=fun h j hj h2=>by
   rcases J0.1 h2 with h3|rfl
   ·exact HP.o j hj h3
   exact h
  have I:=Hd (Jw b5);have e8:Hid (∀ W,Up w W->Km W (.slice (some ⟨bt,0,none⟩) k ct) (T.take k)):=fun W h=>VQ (HT.o.bl h) hk;obtain⟨u,hu⟩:=O1 (T[k]);rw[hu] at d0 f9 d6 b8 a8 I;clear hu;have c8:Hid (∀ W,Up w W->Calls prog 41 #[.agg #[vs,vf,.slice (some ⟨bt,0,none⟩) T.length ct],.int .i64 (k:Nat),.agg #[.int .i64 u.op,.string (Oo u.sort),.string (Oo u.text),.int .i64 u.a,.int .i64 u.b,.slice pa u.kids.length ca]] W fun e w'=>e=.returned (.bool (Kc S num F T k u))/\Up W w'):=fun W h=>
   B3 vs vf _ S num F T k u _ W (HS.o.bl h) (HF.o.bl h) (HT.o.bl h) (d0.o.bl h) hk htl hfl (b9.o u I.o).2.2 (b9.o u I.o).1 (b9.o u I.o).2.1 (fun t ht=>(b9.o t ht).1) (fun W' h'=>d7.o u I.o _ W' (h.trans (h'.mono h.size)))
  have Y:Hid (∀ W,Up wr W->W.cell? ⟨w.heap.size,0,none⟩=some vs/\W.cell? ⟨w.heap.size,1,none⟩=some vf/\W.cell? ⟨w.heap.size,2,none⟩=some (.slice (some ⟨bt,0,none⟩) T.length ct)/\W.cell? ⟨bt,k*6,none⟩=some (.int .i64 u.op)/\W.cell? ⟨bt,k*6+1,none⟩=some (.string (Oo u.sort))/\W.cell? ⟨bt,k*6+2,none⟩=some (.string (Oo u.text))/\W.cell? ⟨bt,k*6+3,none⟩=some (.int .i64 u.a)/\W.cell? ⟨bt,k*6+4,none⟩=some (.int .i64 u.b)/\W.cell? ⟨bt,k*6+5,none⟩=some (.slice pa u.kids.length ca)):=fun W h=>by
   have h2:=d6.o W (E.o.trans (h.mono E.o.size));have h1:=(e1.o.bl e1.o.lt h).c3;exact⟨h1.1,h1.2.1,h1.2.2,h2⟩
  have d8:Hid (∀ W,Up wr W->Calls prog 42 #[.slice (some ⟨bt,0,none⟩) k ct,.agg #[.int .i64 u.op,.string (Oo u.sort),.string (Oo u.text),.int .i64 u.a,.int .i64 u.b,.slice pa u.kids.length ca]] W fun e w'=>e=.returned (.int .i64 (Gg (T.take k) u))/\Up W w'):=fun W h=>
   YP _ _ (T.take k) u W (e8.o W (E.o.trans (h.mono E.o.size))) (d0.o.bl (E.o.trans (h.mono E.o.size)))
  have h7:=Y.o wr (Jh _ _);clear b0 b1 b2
  go_upto_region 6 with fail
  cases b6:Kc S num F T k u
  ·have Z:=Hd b6;have G:=Hd (b8.o (by rw[b6];rfl));clear b6
   go_cut [40] (fun s40 wx=>s40=.bool true/\Up wr wx)
   case first=>
    refine wp_region_held_drew (S:=fun W=>W.cell? ⟨w.heap.size,0,none⟩=some vs/\W.cell? ⟨w.heap.size,1,none⟩=some vf/\W.cell? ⟨w.heap.size,2,none⟩=some (.slice (some ⟨bt,0,none⟩) T.length ct)/\W.cell? ⟨bt,k*6,none⟩=some (.int .i64 u.op)/\W.cell? ⟨bt,k*6+1,none⟩=some (.string (Oo u.sort))/\W.cell? ⟨bt,k*6+2,none⟩=some (.string (Oo u.text))/\W.cell? ⟨bt,k*6+3,none⟩=some (.int .i64 u.a)/\W.cell? ⟨bt,k*6+4,none⟩=some (.int .i64 u.b)/\W.cell? ⟨bt,k*6+5,none⟩=some (.slice pa u.kids.length ca)) (by kernel_rfl) (Y.o wr.drew (Jh _ _).drew) (fun hHeld=>?_);refine tk 0 19 (v:=?_) rfl rfl (by kernel_rfl) (fun _ _ _ h=>h) (Or.inl ⟨by rfl,?_⟩) (by assumption) ?_
    rotate_left
    ·(intro w d;(try dsimp only at d);go_simp;(try with_reducible rfl))
    try simp only[Act.put,Ja,Je,Jd]
    refine tk 1 20 (v:=?_) rfl rfl (by kernel_rfl) (fun _ _ _ h=>h) (Or.inl ⟨by rfl,?_⟩) (by assumption) ?_
    rotate_left
    ·(intro w d;(try dsimp only at d);go_simp;(try with_reducible rfl))
    try simp only[Act.put,Ja,Je,Jd]
    refine tk 2 21 (v:=?_) rfl rfl (by kernel_rfl) (fun _ _ _ h=>h) (Or.inl ⟨by rfl,?_⟩) (by assumption) ?_
    rotate_left
    ·(intro w d;(try dsimp only at d);go_simp;(try with_reducible rfl))
    try simp only[Act.put,Ja,Je,Jd]
    refine tk 3 22 (v:=?_) rfl rfl (by kernel_rfl) (fun _ _ _ h=>h) (Or.inl ⟨by rfl,?_⟩) (by assumption) ?_
    rotate_left
    ·(intro w d;(try dsimp only at d);go_simp;(try with_reducible rfl))
    try simp only[Act.put,Ja,Je,Jd]
    refine tk 4 23 (v:=?_) rfl rfl (by kernel_rfl) (fun _ _ _ h=>h) (Or.inl ⟨by rfl,?_⟩) (by assumption) ?_
    rotate_left
    ·(intro w d;(try dsimp only at d);go_simp;(try with_reducible rfl))
    try simp only[Act.put,Ja,Je,Jd]
    refine tk 5 24 (v:=?_) rfl rfl (by kernel_rfl) (fun _ _ _ h=>h) (Or.inl ⟨by rfl,?_⟩) (by assumption) ?_
    rotate_left
    ·(intro w d;(try dsimp only at d);go_simp;(try with_reducible rfl))
    try simp only[Act.put,Ja,Je,Jd]
    refine tk 6 25 (v:=?_) rfl rfl (by kernel_rfl) (fun _ _ _ h=>h) (Or.inl ⟨by rfl,?_⟩) (by assumption) ?_
    rotate_left
    ·(intro w d;(try dsimp only at d);go_simp;(try with_reducible rfl))
    try simp only[Act.put,Ja,Je,Jd]
    refine wpAnyH_ready (rs:=[7]) (by kernel_rfl) (by simp) ?_;refine AllReadyH.cons rfl (fun K hK=>?_) AllReadyH.nil
    go_simp
    go_at_call 41
    refine (c8.o wr.drew E.o.drew).mono ?_;rw[Z.o];rintro e w6 ⟨rfl,A⟩;have J:Hid (Up wr w6):=⟨A.os,A.tape,A.output,A.size,A.block⟩;clear A
    go_wp2_with fail
    refine hK.o _ _ (Y.o w6 J.o) (fun hHeld2=>?_);clear hK K
    try simp only[Act.put,Ja,Je,Jd]
    refine tk 8 27 (v:=?_) rfl rfl (by kernel_rfl) (fun _ _ _ h=>h) (Or.inl ⟨by rfl,?_⟩) (by assumption) ?_
    rotate_left
    ·(intro w d;(try dsimp only at d);go_simp;(try with_reducible rfl))
    try simp only[Act.put,Ja,Je,Jd]
    refine tk 9 28 (v:=?_) rfl rfl (by kernel_rfl) (fun _ _ _ h=>h) (Or.inl ⟨by rfl,?_⟩) (by assumption) ?_
    rotate_left
    ·(intro w d;(try dsimp only at d);go_simp;(try with_reducible rfl))
    try simp only[Act.put,Ja,Je,Jd]
    refine tk 10 29 (v:=undef) rfl rfl (by kernel_rfl) (fun _ _ _ h=>h) (Or.inr ⟨by rfl,rfl⟩) (by assumption) ?_
    try simp only[Act.put,Ja,Je,Jd]
    refine tk 11 30 (v:=undef) rfl rfl (by kernel_rfl) (fun _ _ _ h=>h) (Or.inr ⟨by rfl,rfl⟩) (by assumption) ?_
    try simp only[Act.put,Ja,Je,Jd]
    refine tk 12 31 (v:=undef) rfl rfl (by kernel_rfl) (fun _ _ _ h=>h) (Or.inr ⟨by rfl,rfl⟩) (by assumption) ?_
    try simp only[Act.put,Ja,Je,Jd]
    refine tk 13 32 (v:=undef) rfl rfl (by kernel_rfl) (fun _ _ _ h=>h) (Or.inr ⟨by rfl,rfl⟩) (by assumption) ?_
    try simp only[Act.put,Ja,Je,Jd]
    refine tk 14 33 (v:=undef) rfl rfl (by kernel_rfl) (fun _ _ _ h=>h) (Or.inr ⟨by rfl,rfl⟩) (by assumption) ?_
    try simp only[Act.put,Ja,Je,Jd]
    refine tk 15 34 (v:=undef) rfl rfl (by kernel_rfl) (fun _ _ _ h=>h) (Or.inr ⟨by rfl,rfl⟩) (by assumption) ?_
    try simp only[Act.put,Ja,Je,Jd]
    refine tk 16 35 (v:=undef) rfl rfl (by kernel_rfl) (fun _ _ _ h=>h) (Or.inr ⟨by rfl,rfl⟩) (by assumption) ?_
    try simp only[Act.put,Ja,Je,Jd]
    refine tk 17 36 (v:=undef) rfl rfl (by kernel_rfl) (fun _ _ _ h=>h) (Or.inr ⟨by rfl,rfl⟩) (by assumption) ?_
    try simp only[Act.put,Ja,Je,Jd]
    refine tk 18 37 (v:=undef) rfl rfl (by kernel_rfl) (fun _ _ _ h=>h) (Or.inr ⟨by rfl,rfl⟩) (by assumption) ?_
    try simp only[Act.put,Ja,Je,Jd]
    refine tk 19 38 (v:=undef) rfl rfl (by kernel_rfl) (fun _ _ _ h=>h) (Or.inr ⟨by rfl,rfl⟩) (by assumption) ?_
    try simp only[Act.put,Ja,Je,Jd]
    refine tk 20 39 (v:=undef) rfl rfl (by kernel_rfl) (fun _ _ _ h=>h) (Or.inr ⟨by rfl,rfl⟩) (by assumption) ?_
    try simp only[Act.put,Ja,Je,Jd]
    refine tk 21 40 (v:=?_) rfl rfl (by kernel_rfl) (fun _ _ _ h=>h) (Or.inl ⟨by rfl,?_⟩) (by assumption) ?_
    rotate_left
    ·(intro w d;(try dsimp only at d);go_simp;(try with_reducible rfl))
    try simp only[Act.put,Ja,Je,Jd]
    refine wpAnyH_done (by kernel_rfl) ?_ _
    go_wp2
    go_meet
    exact⟨rfl,J.o⟩
   obtain⟨rfl,b3⟩:=hcut;have b7:=E.up b3;clear b3
   go_wp2
   go_ret
   exact⟨Oz G.o.symm,b7.o⟩
  have Z:=Hd b6;clear b6;obtain⟨q,hq⟩:=O1 (Gg (T.take k) u);rw[hq] at b8 a8 d8;clear hq
  go_cut [40] (fun s40 wx=>s40=.bool (decide (0<=q))/\Up wr wx)
  case first=>
   go_region_held3 (fun W=>W.cell? ⟨w.heap.size,0,none⟩=some vs/\W.cell? ⟨w.heap.size,1,none⟩=some vf/\W.cell? ⟨w.heap.size,2,none⟩=some (.slice (some ⟨bt,0,none⟩) T.length ct)/\W.cell? ⟨bt,k*6,none⟩=some (.int .i64 u.op)/\W.cell? ⟨bt,k*6+1,none⟩=some (.string (Oo u.sort))/\W.cell? ⟨bt,k*6+2,none⟩=some (.string (Oo u.text))/\W.cell? ⟨bt,k*6+3,none⟩=some (.int .i64 u.a)/\W.cell? ⟨bt,k*6+4,none⟩=some (.int .i64 u.b)/\W.cell? ⟨bt,k*6+5,none⟩=some (.slice pa u.kids.length ca)) (first
    | assumption|go_keep) (first
    | (go_at_call 41;refine (c8.o wr.drew E.o.drew).mono ?_;rw[Z.o];rintro e w6 ⟨rfl,A⟩;have J:Hid (Up wr w6):=⟨A.os,A.tape,A.output,A.size,A.block⟩;have h8:=Y.o w6 J.o;clear A)
    | (go_at_call 42;refine (d8.o w6 J.o).mono ?_;rintro e w7 ⟨rfl,e2⟩;have d5:=J.up e2;have h9:=Y.o w7 d5.o;clear e2))
   all_goals (go_wp2;go_meet;exact⟨rfl,d5.o⟩)
  obtain⟨rfl,b3⟩:=hcut;have b7:=e5.up b3;clear b3
  by_cases hq:0<=q
  ·have G:=Hd (b8.o (by rw[Z.o,Jg (by omega)];rfl));rw[Jb hq];clear hq
   go_wp2
   go_ret
   exact⟨Oz G.o.symm,V.o.trans (b7.o.mono V.o.size)⟩
  have HR:=Hd (a8.o (by rw[Z.o,Jb (by omega)];rfl));rw[Jg hq];clear hq
  go_wp2
  go_roundw
  case rel=>exact⟨k+1,by omega,by go_num,HR.o,b7.o⟩
  simp[intOf];omega
 have G:Hid (Hg S num F T=true):=EO h3 e6.o (fun i hi=>HP.o i hi (by omega));have z5:¬ (k:Int)<(T.length:Int):=by omega
 go_wp2
 go_ret
 exact⟨Oz G.o.symm,E.o⟩
end Go.Proofs.YtipgjenolpofpaaGreatDoor
