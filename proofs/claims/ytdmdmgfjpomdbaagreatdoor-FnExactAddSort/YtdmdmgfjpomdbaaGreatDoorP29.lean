import Derived.Test.YtdmdmgfjpomdbaaGreatDoorP00
import Derived.Test.YtdmdmgfjpomdbaaGreatDoorP28
import Derived.Test.YtdmdmgfjpomdbaaGreatDoorP16
import Derived.Maps.AppendAt
import Derived.Deep.RegionHeld3
set_option maxRecDepth 100000
set_option maxHeartbeats 16000000
namespace Go.Proofs.YtdmdmgfjpomdbaaGreatDoor
open ChangeShapes WideShapes ChangeAt RowKit Proofs.Tryz
variable {L:List (List UInt8)}{fuel i:Nat}{v:Value}{w:World}
def Ha (L:List (List UInt8)):Bool:=(List.range L.length).all (fun i=>match L[i]? with|none=>true|some s=>Ni s&&!Ok (L.take i) s)
def Gk (S:List (List UInt8))(F:List Fn):Bool:=decide (S.length+F.length<=300)&&Ha (S++F.map (·.name))&&F.all (K4 (Ok S))
theorem freshL_no (h:i<L.length)(hb:(Ni L[i]&&!Ok (L.take i) L[i])=false):Ha L=false:=by
 unfold Ha;rw[J8];intro d;have:=Jt.1 d i (Y5.2 h);rw[Jd h] at this;simp only at this;rw[hb] at this
 cases this
theorem VF (h:∀ i (h:i<L.length),(Ni L[i]&&!Ok (L.take i) L[i])=true):Ha L=true:=by
 unfold Ha;rw[Jt];intro i d;have d:=Y5.1 d;rw[Jd d];exact h i d
theorem QH {p:Option Addr}{n c:Nat}(h:O3 w (.slice p n c) L){k:Nat}(hk:k<=L.length):O3 w (.slice p k c) (L.take k):=by
 obtain⟨A,d,e,j,h2,h3⟩:=h;simp only[Value.slice.injEq] at e;obtain⟨rfl,rfl,rfl⟩:=e;refine⟨p,c,by rw[J4,Zo hk],by rw[J4,Zo hk];omega,h2,?_⟩
 rcases h3 with h3|⟨b,e,hl,hc⟩
 ·exact .inl (by rw[h3,List.take_nil])
 exact .inr ⟨b,e,hl,fun i hi=>by
  rw[J4] at hi;rw[hc i (by omega),List.getElem_take]⟩
theorem Py {ops:Array Oper}{rest:List Oper}{o:Oper}{a:Act}{Q:Exit->Act->World->Prop}{W:World}{base n c:Nat}{v:Value}{xs:List Value}{ad:Addr}{L:List (List UInt8)}(hgd:o.guard=none)(s y:Operand)
 (ho:o.op=.call { callee:=.builtin .append,args:=#[s,y],argTypes:=#[22,22] }) (hs:a.eval s=v) (hown:W.ownsRow base 9 1 v n xs)
 (hx:a.eval y=.slice (some ad) L.length c) (hc:∀ i (h:i<L.length),W.cell? (ad.add i)=some (.string (Oo L[i]))) (hn:n+L.length<=1000000000) (hbase:base<=W.heap.size)
 (h:∀ v' W',W'.ownsRow base 9 1 v' (n+L.length) (xs++strsC L)->W.grownBy W' v.ownBlock->wpList prog ops Q rest (a.put o.dst v') W') :
 wpList prog ops Q (o::rest) a W:=by
 obtain⟨i0,d,A,E,G⟩:=Q8;obtain⟨v',w',J,h2,h3,_,_⟩:=run_append_own_at (P:=prog) W base 22 o.type 9 i0 _ 1 16 underlying22 d A E G rfl (by decide) v n xs hown ad L.length c (strsC L) (by simp[strsC]) (fun j u hu=>by
  have I:j<L.length:=by have:=(Zq.1 hu).1;simpa[strsC] using this
  rw[hc j I,<-hu];simp[strsC,List.getElem?_eq_getElem I]) (fun u hu=>by
  simp only[strsC,Zh] at hu;obtain⟨x,_,rfl⟩:=hu;rfl) (by unfold maxLen;omega) (by omega) hbase
 refine wpList_plain hgd fun K hK=>?_;unfold Oper.wp;simp[execOp,ho,resolve,invoke,builtin,hs,hx,J,Result.andThen];exact hK _ _ (h v' w' h2 h3)
theorem B8 (vs vf vt:Value)(S:List (List UInt8))(F:List Fn)(w:World)(hS:O3 w vs S)(hF:E9 w vf F)(hz:∀ s∈S,s.length<=1048576)(hzf:∀ f∈F,f.name.length<=1048576/\f.sort.length<=1048576/\∀ a∈f.args,a.length<=1048576)(hl:S.length<=1048576)(hfl:F.length<=1048576)(hvs:∃ ad n c,vs=.slice (some ad) n c) :
 Calls prog 55 #[.agg #[vs,vf,vt]] w fun e w'=>e=.returned (.bool (Gk S F))/\Up w w':=by
 have HS:=Hd hS;have HF:=Hd hF;have HZ:=Hd hz;have j7:=Hd hzf;obtain⟨ad,n0,c0,e0⟩:=hvs;obtain⟨ps,cs,rfl,s1,s2,s3⟩:=hS;simp only[Value.slice.injEq] at e0;obtain⟨rfl,rfl,rfl⟩:=e0;obtain⟨pf,cf,rfl,f1,f2,f3⟩:=hF;have l6:=Hd s3;have i6:=Hd f3;unfold maxLen at s2 f2;clear hz hzf s3 f3;have m5:Hid (Bx (w.alloc (.cells #[.slice (some ad) S.length cs,.slice pf F.length cf,vt] 31)) w.heap.size [.slice (some ad) S.length cs,.slice pf F.length cf,vt]):=Oi w _ _;have e8:Hid (Up w (w.alloc (.cells #[.slice (some ad) S.length cs,.slice pf F.length cf,vt] 31))):=Oz _ _
 by_cases U:¬ (S.length+F.length<=300)
 ·have G:Hid (Gk S F=false):=by unfold Hid Gk;rw[Jc U];rfl
  have y:decide ((300:Int)<(S.length:Int)+(F.length:Int))=true:=dT (by omega)
  have y':(300:Int)<(S.length:Int)+(F.length:Int):=by omega
  go_in
  go_wp2
  go_ret
  exact⟨Oy G.o.symm,e8.o⟩
 have U:=Decidable.not_not.1 U;have y':(S.length:Int)+(F.length:Int)<=300:=by omega
 have O:Hid (Gk S F=(Ha (S++F.map (·.name))&&F.all (K4 (Ok S)))):=by unfold Hid Gk;rw[Ja U];rfl
 go_in
 go_wp2_with (at_builtin;refine Py (n:=0) (base:=w.heap.size+1) (xs:=[]) (L:=S) rfl _ _ rfl rfl ?own rfl ?hc ?hn ?hb ?_)
 case own=>exact⟨rfl,.inl ⟨rfl,rfl⟩⟩
 case hc=>
  intro i hi
  rcases l6.o with e0|⟨b,e,hb,hc⟩
  ·rw[e0] at hi;cases hi
  cases e
  rw[show ((⟨b,0,none⟩:Addr).add i)=⟨b,i,none⟩ by unfold Addr.add;split<;>simp_all];exact (e8.o.cell (p:=⟨b,i,none⟩) hb).trans (hc i hi)
 case hn=>omega
 case hb=>rw[Jf];omega
 intro v2 w2 b9 E;have e9:Hid (Below (w.heap.size+1) (w.alloc (.cells #[.slice (some ad) S.length cs,.slice pf F.length cf,vt] 31)) w2):=⟨E.os,E.tape,E.output,E.size,fun k hk=>E.block k (by rw[Jf];exact hk) (fun e=>by cases e)⟩;have g1:=Hd b9;have g2:Hid (Bx w2 w.heap.size [.slice (some ad) S.length cs,.slice pf F.length cf,vt]):=m5.o.bl (N:=w.heap.size+1) (by omega) e9.o;have h9:Hid (Up w w2):=e8.o.trans (e9.o.mono (by omega));have d2:Hid (w.heap.size+1<=w2.heap.size):=by have:=E.size;rw[Jf] at this;exact this
 clear b9 E;obtain⟨p3,c3,rfl⟩:=Ed g1.o;obtain⟨M,hM⟩:=Oa (F.map (·.name));have d0:Hid (M.length=F.length):=by unfold Hid;rw[<-hM];simp
 have l3:Hid (∀ k (h:k<F.length) (h':k<M.length),M[k]=F[k].name):=by
  intro k h h';subst hM;simp
 rw[hM] at O;have HM:=Hd hM;clear hM;obtain⟨N,hN⟩:=Oa (w.heap.size+1);have HN:=Hd hN;rw[hN] at g1 e9 d2;clear hN;have b0:=g2.o.c3.1;have b1:=g2.o.c3.2.1
 go_wp2_with fail
 clear b0 b1
 go_loopw [3,25] (fun v i wr=>∃ k:Nat,k<=F.length/\i=.int .i64 (k:Nat)/\wr.ownsRow N 9 1 v (S.length+k) (strsC (S++M.take k))/\Below N w2 wr) (fun _ i _=>F.length - (intOf i).toNat)
 case atStart=>exact⟨0,Jr _,rfl,by simpa using g1.o,Je _ _⟩
 obtain⟨k,hk,rfl,b8,g8⟩:=hrel;have K:=Hd b8;have a8:=Hd g8;have Y:Hid (Up w wr):=h9.o.trans (g8.mono (by have:=HN.o;omega));obtain⟨p7,c7,rfl⟩:=Ed b8;clear b8 g8
 by_cases I:k<F.length
 ·rcases i6.o with e0|⟨bf,rfl,J,b6⟩
  ·rw[e0] at I;cases I
  obtain⟨k0,⟨va,k1,pa,ca,rfl,j9,m7,-⟩,k2⟩:=b6 k I;have k0:=(Y.o.cell (p:=⟨bf,k*3,none⟩) J).trans k0;have k1:=(Y.o.cell (p:=⟨bf,k*3+1,none⟩) J).trans k1;have k2:=(Y.o.cell (p:=⟨bf,k*3+2,none⟩) J).trans k2;have i0:(0:Int)<=(k:Int):=by omega
  have i1:(k:Int)<(F.length:Int):=by omega
  clear b6;have i7:Hid (M.take (k+1)=M.take k++[F[k].name]):=by
   have h:=d0.o;unfold Hid;rw[Ye (by omega),l3.o k I (by omega)]
  generalize F[k]=x at k0 k1 k2 i7
  go_wp2_with (at_builtin;refine N4 (t:=Oo x.name) (n:=S.length+k) (base:=N) (xs:=strsC (S++M.take k)) rfl _ _ rfl rfl ?own _ rfl ?hH ?hn ?hb ?_)
  case own=>exact K.o.alloc _
  case hH=>rw[Jf]
  case hn=>omega
  case hb=>have:=a8.o.size;have:=d2.o;rw[Jf];omega
  intro g5 c5 w5 c6 e6 k7;have c8:Hid (Below N w2 w5):=Nj (a8.o.alloc (by have:=a8.o.size;have:=d2.o;omega) _) (K.o.alloc _) e6 (by have:=a8.o.size;have:=d2.o;rw[Jf];omega);have l4:Hid (w5.ownsRow N 9 1 (.slice (some ⟨g5,0,none⟩) (S.length+k+1) c5) (S.length+(k+1)) (strsC (S++M.take (k+1)))):=by
   unfold Hid;rw[i7.o,<-List.append_assoc];have e:strsC (S++M.take k++[x.name])=strsC (S++M.take k)++[.string (Oo x.name)]:=by simp[strsC]
   rw[e];exact c6
  clear c6 e6 k7
  go_wp2
  go_roundw
  case rel=>exact⟨k+1,by omega,by go_num,l4.o,c8.o⟩
  simp[intOf];omega
 obtain rfl:k=F.length:=by omega
 have e1:Hid (O3 wr (.slice p7 (S.length+F.length) c7) (S++M)):=by
  have h:=K.o;rw[<-d0.o,Yk] at h;rw[<-d0.o];exact I2 h (by simp)
 have j6:Hid (∀ s∈S++M,s.length<=1048576):=fun s hs=>by
  rcases Zm.1 hs with h|h
  ·exact HZ.o s h
  rw[<-HM.o] at h;obtain⟨f,hf,rfl⟩:=Zh.1 h;exact (j7.o f hf).1
 obtain⟨A,g7⟩:=Oa (S++M);have a7:Hid (A.length=S.length+F.length):=by unfold Hid;rw[<-g7,Yn,d0.o]
 rw[g7] at e1 O j6;clear g7 I hk K;have d3:Hid (Bx wr w.heap.size [.slice (some ad) S.length cs,.slice pf F.length cf,vt]):=g2.o.bl (N:=N) (by have:=HN.o;omega) a8.o
 go_wp2_with fail
 obtain⟨W4,rfl⟩:∃ W4,W4=wr:=⟨_,rfl⟩;have o3:(A.length:Int)=(S.length:Int)+(F.length:Int):=by have:=a7.o;omega
 go_loopw [37] (fun i wq=>∃ k:Nat,k<=A.length/\i=.int .i64 (k:Nat)/\(∀ j (h:j<A.length),j<k->(Ni A[j]&&!Ok (A.take j) A[j])=true)/\Up W4 wq) (fun i _=>A.length - (intOf i).toNat)
 case atStart=>exact⟨0,Jr _,rfl,fun j _ h=>absurd h (J2 _),Je _ _⟩
 obtain⟨k,hk,rfl,hp,d5⟩:=hrel;have HP:=Hd hp;have f9:=Hd d5;have g0:=Y.up d5;have e7:=Hd (e1.o.bl d5);clear hp d5
 by_cases I:k<A.length
 ·obtain⟨bs,rfl,k8⟩:=K2 e7.o (by omega);have ck:=k8 k I;clear k8;have i0:(0:Int)<=(k:Int):=by omega
  have i1:(k:Int)<(S.length:Int)+(F.length:Int):=by omega
  have i2:k<S.length+F.length:=by omega
  have g9:(Oo A[k]).size<=maxLen:=by
   have:=j6.o _ (Jo I)
   show A[k].toArray.size<=_
   unfold maxLen;simp;omega
  have d1:Hid ((Ni A[k]&&!Ok (A.take k) A[k])=false->Gk S F=false):=fun h=>by rw[O.o,freshL_no I h];rfl
  have e4:Hid ((Ni A[k]&&!Ok (A.take k) A[k])=true->∀ j (h:j<A.length),j<k+1->(Ni A[j]&&!Ok (A.take j) A[j])=true):=fun h j hj h2=>by
   rcases J1.1 h2 with h3|rfl
   ·exact HP.o j hj h3
   exact h
  have l9:=Hd (QH e7.o (k:=k) hk);generalize A[k]=s at ck g9 d1 e4
  go_wp2_with fail
  refine (E4 (Oo s) _ g9).mono ?_;rw[Ou]
  cases d8:Ng s
  ·have G:Hid (Gk S F=false):=d1.o (by unfold Ni;rw[d8];rfl);clear d8;rintro e w5 ⟨rfl,rfl⟩
   go_wp2
   go_ret
   exact⟨Oy G.o.symm,g0.o⟩
  have l7:=Hd d8;clear d8;rintro e w5 ⟨rfl,rfl⟩
  go_wp2_with fail
  refine (Fo (Oo s) _ g9).mono ?_;rw[Ou]
  cases d9:Gj s
  ·have l8:=Hd d9;clear d9;rintro e w6 ⟨rfl,Z⟩;have h8:=f9.up Z;have b3:Hid (Up w w6):=Y.o.trans (h8.o.mono Y.o.size);have j3:=Hd (l9.o.bl Z);have o4:S.length+F.length<=c7:=by
    obtain⟨p',c',e,h1,h2,_⟩:=e7.o;simp only[Value.slice.injEq] at e;have:=a7.o;omega
   clear Z
   go_wp2_with fail
   refine (Gm _ (A.take k) (Oo s) _ j3.o).mono ?_;rw[Ou]
   cases d6:Ok (A.take k) s
   ·have HR:=Hd (e4.o (by unfold Ni;rw[l7.o,l8.o,d6];rfl));clear d6;rintro e w7 ⟨rfl,rfl⟩
    go_wp2
    go_roundw
    case rel=>exact⟨k+1,by omega,by go_num,HR.o,h8.o⟩
    simp[intOf];omega
   have G:Hid (Gk S F=false):=d1.o (by rw[d6];simp);clear d6;rintro e w7 ⟨rfl,rfl⟩
   go_wp2
   go_ret
   exact⟨Oy G.o.symm,b3.o⟩
  have G:Hid (Gk S F=false):=d1.o (by unfold Ni;rw[d9];simp);clear d9;rintro e w6 ⟨rfl,Z⟩;have b3:=g0.up Z;clear Z
  go_wp2
  go_ret
  exact⟨Oy G.o.symm,b3.o⟩
 have i8:Hid (Gk S F=F.all (K4 (Ok S))):=by
  unfold Hid;rw[O.o,VF (fun i hi=>HP.o i hi (by omega))];rfl
 have m8:=(d3.o.bl d3.o.lt f9.o).c3;obtain⟨b0,b1,b2⟩:=m8;have z3:¬ (k:Int)<(S.length:Int)+(F.length:Int):=by omega
 have z4:¬ k<S.length+F.length:=by omega
 obtain⟨W5,rfl⟩:∃ W5,W5=wr:=⟨_,rfl⟩;have j5:Hid (Bx W5 w.heap.size [.slice (some ad) S.length cs,.slice pf F.length cf,vt]):=d3.o.bl d3.o.lt f9.o
 go_wp2_with fail
 clear b0 b1 b2
 go_loopw [60] (fun i wq=>∃ m:Nat,m<=F.length/\i=.int .i64 (m:Nat)/\(∀ j (h:j<F.length),j<m->K4 (Ok S) F[j]=true)/\Up W5 wq) (fun i _=>F.length - (intOf i).toNat)
 case atStart=>exact⟨0,Jr _,rfl,fun j _ h=>absurd h (J2 _),Je _ _⟩
 obtain⟨m,hm,rfl,k9,d4⟩:=hrel;have j2:=Hd k9;have c8:=Hd d4;have d:=g0.up d4;obtain⟨b0,b1,b2⟩:=(j5.o.bl j5.o.lt d4).c3;clear k9 d4
 by_cases b7:m<F.length
 ·rcases i6.o with e0|⟨bf,rfl,J,b6⟩
  ·rw[e0] at b7;cases b7
  obtain⟨k0,⟨va,k1,l0⟩,k2⟩:=b6 m b7;have j4:=Hd (l0.bl d.o);obtain⟨pa,ca,rfl,j9,m7,-⟩:=l0;have k0:=(d.o.cell (p:=⟨bf,m*3,none⟩) J).trans k0;have k1:=(d.o.cell (p:=⟨bf,m*3+1,none⟩) J).trans k1;have k2:=(d.o.cell (p:=⟨bf,m*3+2,none⟩) J).trans k2;have j0:(0:Int)<=(m:Int):=by omega
  have j1:(m:Int)<(F.length:Int):=by omega
  have g3:=Hd (j7.o _ (Jo b7));clear b6;have e3:Hid (K4 (Ok S) F[m]=false->Gk S F=false):=fun h=>by
   rw[i8.o,J8];intro h2;have:=Jt.1 h2 _ (Jo b7);rw[h] at this
   cases this
  have b4:Hid (K4 (Ok S) F[m]=true->∀ j (h:j<F.length),j<m+1->K4 (Ok S) F[j]=true):=fun h j hj h2=>by
   rcases J1.1 h2 with h3|rfl
   ·exact j2.o j hj h3
   exact h
  generalize F[m]=x at k0 k1 k2 j4 g3 e3 b4 j9;have V:Hid (Up wr (wr.alloc (.cells #[.string (Oo x.name),.slice pa x.args.length ca,.string (Oo x.sort)] 45))):=Oz _ _;have l1:w.heap.size<wr.heap.size:=J5 _ _ b0
  go_wp2_with fail
  refine (C9 _ _ S x _ ((HS.o.bl d.o).bl V.o) (j4.o.bl V.o) g3.o.2.2 g3.o.2.1).mono ?_
  cases d7:K4 (Ok S) x
  ·have G:=Hd (e3.o d7);clear d7;rintro e w8 ⟨rfl,b5⟩;have f8:Hid (Up w w8):=d.o.trans ((V.o.trans (b5.mono V.o.size)).mono d.o.size);clear b5
   go_wp2
   go_ret
   exact⟨Oy G.o.symm,f8.o⟩
  have HR:=Hd (b4.o d7);clear d7;rintro e w8 ⟨rfl,b5⟩;have f8:Hid (Up W5 w8):=c8.o.trans ((V.o.trans (b5.mono V.o.size)).mono c8.o.size);clear b5
  go_wp2
  go_roundw
  case rel=>exact⟨m+1,by omega,by go_num,HR.o,f8.o⟩
  simp[intOf];omega
 have G:Hid (Gk S F=true):=by
  unfold Hid;rw[i8.o,Jt];intro x hx;obtain⟨j,hj,rfl⟩:=J6 hx;exact j2.o j hj (by omega)
 have z5:¬ (m:Int)<(F.length:Int):=by omega
 go_wp2
 go_ret
 exact⟨Oy G.o.symm,d.o⟩
def Gn (S:List (List UInt8))(num:Tm->Bool)(F:List Fn)(T:List Tm):Bool:=decide (T.length<=3000)&&Gk S F&&(List.range T.length).all (fun i=>match T[i]? with|none=>true|some t=>U6 S num F T i t&&decide (G9 (T.take i) t<0))
theorem AE {P:Program}{ops:Array Oper}{Q:Exit->Act->World->Prop}{md:Region.Mode}{S:World->Prop}{d:Nat}{oi:Oper}{listed:Array Bool}{a:Act}(hi:ops[i]? = some oi)(hd:oi.dst=some d)
 (hs:Region.noSelect ops=true) (hf:Region.free md ops listed i=true) (hr:(Region.ready md ops listed).contains i=true)
 (hQ:∀ c a w,Q (.panic c) (a.put (some d) v) w->Q (.panic c) a w) (hy:YieldsIf P ops S oi v a) (hS:S w)
 (h:wpAnyH P md ops Q S fuel (listed.setIfInBounds i true) (a.put (some d) v) w):wpAnyH P md ops Q S (fuel+1) listed a w:=by
 rw[<-hd] at hQ h;exact wpAnyH_take hi hs hf hr hQ hy hS h
theorem tk {P:Program}{ops:Array Oper}{Q:Exit->Act->World->Prop}{md:Region.Mode}{S:World->Prop}(i d:Nat){oi:Oper}{listed:Array Bool}{a:Act}(hi:ops[i]? = some oi)(hd:oi.dst=some d)
 (hc:(Region.noSelect ops&&(Region.free md ops listed i&&(Region.ready md ops listed).contains i))=true) (hQ:∀ c a w,Q (.panic c) (a.put (some d) v) w->Q (.panic c) a w) (hy:YieldsIf P ops S oi v a) (hS:S w)
 (h:wpAnyH P md ops Q S fuel (listed.setIfInBounds i true) (a.put (some d) v) w):wpAnyH P md ops Q S (fuel+1) listed a w:=by
 rw[J3,J3] at hc;exact AE hi hd hc.1 hc.2.1 hc.2.2 hQ hy hS h
theorem BR {P:Program}{ops:Array Oper}{Q:Exit->Act->World->Prop}{S:World->Prop}(n:Nat)(hn:ops.size=n){id:Nat}{a:Act}(hm:P.follows .mixedOrders=true)(hS:S w.drew)(h:S w.drew->wpAnyH P .any ops Q S n (Array.replicate ops.size false) a w.drew):(Code.region id ops true).wp P Q a w:=by
 subst hn;exact wp_region_held_drew hm hS h
theorem tkf {P:Program}{ops:Array Oper}{Q:Exit->Act->World->Prop}{md:Region.Mode}{S:World->Prop}(k m:Nat){oi:Oper}{listed:Array Bool}{a:Act}(hi:ops[k - fuel]? = some oi)(hd:oi.dst=some (m - fuel))
 (hc:(Region.noSelect ops&&(Region.free md ops listed (k - fuel)&&(Region.ready md ops listed).contains (k - fuel)))=true) (hQ:∀ c a w,Q (.panic c) (a.put (some (m - fuel)) v) w->Q (.panic c) a w) (hy:YieldsIf P ops S oi v a) (hS:S w)
 (h:wpAnyH P md ops Q S fuel (listed.setIfInBounds (k - fuel) true) (a.put (some (m - fuel)) v) w):wpAnyH P md ops Q S (fuel+1) listed a w:=tk (k - fuel) (m - fuel) hi hd hc hQ hy hS h
theorem PE {S:List (List UInt8)}{num:Tm->Bool}{F:List Fn}{T:List Tm}(h:i<T.length)(hb:(U6 S num F T i T[i]&&decide (G9 (T.take i) T[i]<0))=false):Gn S num F T=false:=by
 unfold Gn;have:(List.range T.length).all (fun i=>match T[i]? with|none=>true|some t=>U6 S num F T i t&&decide (G9 (T.take i) t<0))=false:=by
  rw[J8];intro d;have:=Jt.1 d i (Y5.2 h);rw[Jd h] at this;simp only at this;rw[hb] at this
  cases this
 rw[this,Y1]
theorem IE {S:List (List UInt8)}{num:Tm->Bool}{F:List Fn}{T:List Tm}(h3:T.length<=3000)(hn:Gk S F=true)(h:∀ i (h:i<T.length),(U6 S num F T i T[i]&&decide (G9 (T.take i) T[i]<0))=true):Gn S num F T=true:=by
 unfold Gn;rw[Ja h3,hn,Zd,Zd,Jt];intro i d;have d:=Y5.1 d;rw[Jd d];exact h i d
theorem ED {p:Option Addr}{n c:Nat}{L:List Tm}(h:K9 w (.slice p n c) L){k:Nat}(hk:k<=L.length):K9 w (.slice p k c) (L.take k):=by
 obtain⟨A,d,e,j,h2,h3⟩:=h;simp only[Value.slice.injEq] at e;obtain⟨rfl,rfl,rfl⟩:=e;refine⟨p,c,by rw[J4,Zo hk],by rw[J4,Zo hk];omega,h2,?_⟩
 rcases h3 with h3|⟨b,e,hl,hc⟩
 ·exact .inl (by rw[h3,List.take_nil])
 exact .inr ⟨b,e,hl,fun i hi=>by
  rw[J4] at hi;have:=hc i (by omega);rw[List.getElem_take];exact this⟩
theorem B0 (vs vf vt:Value)(S:List (List UInt8))(num:Tm->Bool)(F:List Fn)(T:List Tm)(w:World)(hS:O3 w vs S)(hF:E9 w vf F)(hT:K9 w vt T)(hz:∀ s∈S,s.length<=1048576)(hzf:∀ f∈F,f.name.length<=1048576/\f.sort.length<=1048576/\∀ a∈f.args,a.length<=1048576)(hzt:∀ t∈T,t.sort.length<=1048576/\t.text.length<=1048576/\t.kids.length<=1048576)(hl:S.length<=1048576)(hfl:F.length<=1048576)(htl:T.length<=1048576)(hvs:∃ ad n c,vs=.slice (some ad) n c)
 (hnum:∀ t∈T,∀ vk w',Up w w'->Calls prog 72 #[.agg #[.int .i64 t.op,.string (Oo t.sort),.string (Oo t.text),.int .i64 t.a,.int .i64 t.b,vk]] w' fun e w''=>e=.returned (.bool (num t))/\Below w'.heap.size w' w'') :
 Calls prog 30 #[.agg #[vs,vf,vt]] w fun e w'=>e=.returned (.bool (Gn S num F T))/\Up w w':=by
 have HS:=Hd hS;have HF:=Hd hF;have HT:=Hd hT;have HZ:=Hd hz;have f8:=Hd hzf;have b7:=Hd hzt;have d6:=Hd hnum;have e9:=Hd hvs;obtain⟨pt,ct,rfl,t1,t2,t3⟩:=hT;have e7:=Hd t3;unfold maxLen at t2;clear hS hF hz hzf hzt hvs hnum t3;have d8:Hid (Bx (w.alloc (.cells #[vs,vf,.slice pt T.length ct] 31)) w.heap.size [vs,vf,.slice pt T.length ct]):=Oi w _ _;have M:Hid (Up w (w.alloc (.cells #[vs,vf,.slice pt T.length ct] 31))):=Oz _ _
 by_cases h3:¬ (T.length<=3000)
 ·have G:Hid (Gn S num F T=false):=by unfold Hid Gn;rw[Jc h3];rfl
  have y':(3000:Int)<(T.length:Int):=by omega
  go_in
  go_wp2
  go_ret
  exact⟨Oy G.o.symm,M.o⟩
 have h3:=Decidable.not_not.1 h3;have y':(T.length:Int)<=3000:=by omega
 go_in
 go_wp2_with fail
 refine (B8 vs vf _ S F _ (HS.o.bl M.o) (HF.o.bl M.o) HZ.o f8.o hl hfl e9.o).mono ?_
 cases b8:Gk S F
 ·have G:Hid (Gn S num F T=false):=by unfold Hid Gn;rw[b8,Y1,Uc]
  clear b8;rintro e w2 ⟨rfl,hb2⟩;have O:=M.up hb2;clear hb2
  go_wp2
  go_ret
  exact⟨Oy G.o.symm,O.o⟩
 have e6:=Hd b8;clear b8;rintro e w2 ⟨rfl,hb2⟩;have O:=M.up hb2;have Y:=Hd (d8.o.bl d8.o.lt hb2);clear hb2;have b2:=Y.o.c3.2.2
 go_wp2_with fail
 clear b2
 go_loopw [16] (fun i wr=>∃ k:Nat,k<=T.length/\i=.int .i64 (k:Nat)/\(∀ j (h:j<T.length),j<k->(U6 S num F T j T[j]&&decide (G9 (T.take j) T[j]<0))=true)/\Up w2 wr) (fun i _=>T.length - (intOf i).toNat)
 case atStart=>exact⟨0,Jr _,rfl,fun j _ h=>absurd h (J2 _),Je _ _⟩
 obtain⟨k,hk,rfl,hp,a8⟩:=hrel;have HP:=Hd hp;have e5:=Hd a8;have A:=O.up a8;obtain⟨b0,b1,b2⟩:=(Y.o.bl Y.o.lt a8).c3;have d9:=Hd (Y.o.bl Y.o.lt a8);clear hp a8
 by_cases b3:k<T.length
 ·rcases e7.o with e0|⟨bt,rfl,J,e3⟩
  ·rw[e0] at b3;cases b3
  obtain⟨c0,c1,c2,c3,c4,va,c5,e4⟩:=e3 k b3;have c6:=Hd e4;obtain⟨pa,ca,rfl,g0,i6,-⟩:=e4;have d5:Hid (∀ W,Up w W->W.cell? ⟨bt,k*6,none⟩=some (.int .i64 T[k].op)/\W.cell? ⟨bt,k*6+1,none⟩=some (.string (Oo T[k].sort))/\W.cell? ⟨bt,k*6+2,none⟩=some (.string (Oo T[k].text))/\W.cell? ⟨bt,k*6+3,none⟩=some (.int .i64 T[k].a)/\W.cell? ⟨bt,k*6+4,none⟩=some (.int .i64 T[k].b)/\W.cell? ⟨bt,k*6+5,none⟩=some (.slice pa T[k].kids.length ca)):=fun W h=>
   ⟨(h.cell (p:=⟨bt,k*6,none⟩) J).trans c0,(h.cell (p:=⟨bt,k*6+1,none⟩) J).trans c1,(h.cell (p:=⟨bt,k*6+2,none⟩) J).trans c2,(h.cell (p:=⟨bt,k*6+3,none⟩) J).trans c3,(h.cell (p:=⟨bt,k*6+4,none⟩) J).trans c4,(h.cell (p:=⟨bt,k*6+5,none⟩) J).trans c5⟩
  clear c0 c1 c2 c3 c4 c5 e3;have i0:(0:Int)<=(k:Int):=by omega
  have i1:(k:Int)<(T.length:Int):=by omega
  have i2:(k:Int)<=(ct:Int):=by omega
  have i3:k<=ct:=by omega
  have b6:Hid ((U6 S num F T k T[k]&&decide (G9 (T.take k) T[k]<0))=false->Gn S num F T=false):=PE b3;have Z:Hid ((U6 S num F T k T[k]&&decide (G9 (T.take k) T[k]<0))=true->∀ j (h:j<T.length),j<k+1->(U6 S num F T j T[j]&&decide (G9 (T.take j) T[j]<0))=true):=fun h j hj h2=>by
   rcases J1.1 h2 with h3|rfl
   ·exact HP.o j hj h3
   exact h
  have E:=Hd (Jo b3);have e8:Hid (∀ W,Up w W->K9 W (.slice (some ⟨bt,0,none⟩) k ct) (T.take k)):=fun W h=>ED (HT.o.bl h) hk;obtain⟨u,hu⟩:=Oa (T[k]);rw[hu] at c6 g0 d5 b6 Z E;clear hu;have b9:Hid (∀ W,Up w W->Calls prog 49 #[.agg #[vs,vf,.slice (some ⟨bt,0,none⟩) T.length ct],.int .i64 (k:Nat),.agg #[.int .i64 u.op,.string (Oo u.sort),.string (Oo u.text),.int .i64 u.a,.int .i64 u.b,.slice pa u.kids.length ca]] W fun e w'=>e=.returned (.bool (U6 S num F T k u))/\Up W w'):=fun W h=>
   S6 vs vf _ S num F T k u _ W (HS.o.bl h) (HF.o.bl h) (HT.o.bl h) (c6.o.bl h) hk htl hfl (b7.o u E.o).2.2 (b7.o u E.o).1 (b7.o u E.o).2.1 (fun t ht=>(b7.o t ht).1) (fun W' h'=>d6.o u E.o _ W' (h.trans (h'.mono h.size)))
  have U:Hid (∀ W,Up wr W->W.cell? ⟨w.heap.size,0,none⟩=some vs/\W.cell? ⟨w.heap.size,1,none⟩=some vf/\W.cell? ⟨w.heap.size,2,none⟩=some (.slice (some ⟨bt,0,none⟩) T.length ct)/\W.cell? ⟨bt,k*6,none⟩=some (.int .i64 u.op)/\W.cell? ⟨bt,k*6+1,none⟩=some (.string (Oo u.sort))/\W.cell? ⟨bt,k*6+2,none⟩=some (.string (Oo u.text))/\W.cell? ⟨bt,k*6+3,none⟩=some (.int .i64 u.a)/\W.cell? ⟨bt,k*6+4,none⟩=some (.int .i64 u.b)/\W.cell? ⟨bt,k*6+5,none⟩=some (.slice pa u.kids.length ca)):=fun W h=>by
   have h2:=d5.o W (A.o.trans (h.mono A.o.size));have h1:=(d9.o.bl d9.o.lt h).c3;exact⟨h1.1,h1.2.1,h1.2.2,h2⟩
  have d7:Hid (∀ W,Up wr W->Calls prog 50 #[.slice (some ⟨bt,0,none⟩) k ct,.agg #[.int .i64 u.op,.string (Oo u.sort),.string (Oo u.text),.int .i64 u.a,.int .i64 u.b,.slice pa u.kids.length ca]] W fun e w'=>e=.returned (.int .i64 (G9 (T.take k) u))/\Up W w'):=fun W h=>
   UA _ _ (T.take k) u W (e8.o W (A.o.trans (h.mono A.o.size))) (c6.o.bl (A.o.trans (h.mono A.o.size)))
  have h7:=U.o wr (Je _ _);clear b0 b1 b2
  go_upto_region 6 with fail
  cases b4:U6 S num F T k u
  ·have V:=Hd b4;have G:=Hd (b6.o (by rw[b4];rfl));clear b4
   go_cut [40] (fun s40 wx=>s40=.bool true/\Up wr wx)
   case first=>
    refine BR 22 rfl (S:=fun W=>W.cell? ⟨w.heap.size,0,none⟩=some vs/\W.cell? ⟨w.heap.size,1,none⟩=some vf/\W.cell? ⟨w.heap.size,2,none⟩=some (.slice (some ⟨bt,0,none⟩) T.length ct)/\W.cell? ⟨bt,k*6,none⟩=some (.int .i64 u.op)/\W.cell? ⟨bt,k*6+1,none⟩=some (.string (Oo u.sort))/\W.cell? ⟨bt,k*6+2,none⟩=some (.string (Oo u.text))/\W.cell? ⟨bt,k*6+3,none⟩=some (.int .i64 u.a)/\W.cell? ⟨bt,k*6+4,none⟩=some (.int .i64 u.b)/\W.cell? ⟨bt,k*6+5,none⟩=some (.slice pa u.kids.length ca)) (by kernel_rfl) (U.o wr.drew (Je _ _).drew) (fun hHeld=>?_)
    iterate 7 ((first|(refine tkf 21 40 (v:=?_) rfl rfl (by kernel_rfl) (fun _ _ _ h=>h) (Or.inl ⟨by rfl,?_⟩) (by assumption) ?_;rotate_left;(intro w c8;(try dsimp only at c8);go_simp;(try with_reducible rfl))));simp only[Nat.reduceSub,Act.put,Jp,J0,Jz])
    refine wpAnyH_ready (rs:=[7]) (by kernel_rfl) (by simp) ?_;refine AllReadyH.cons rfl (fun K hK=>?_) AllReadyH.nil
    go_simp
    go_at_call 49
    refine (b9.o wr.drew A.o.drew).mono ?_;rw[V.o];rintro e w6 ⟨rfl,d⟩;have I:Hid (Up wr w6):=⟨d.os,d.tape,d.output,d.size,d.block⟩;clear d
    go_wp2_with fail
    refine hK.o _ _ (U.o w6 I.o) (fun hHeld2=>?_);clear hK K
    try simp only[Act.put,Jp,J0,Jz]
    iterate 14 ((first|(refine tkf 21 40 (v:=?_) rfl rfl (by kernel_rfl) (fun _ _ _ h=>h) (Or.inl ⟨by rfl,?_⟩) (by assumption) ?_;rotate_left;(intro w c8;(try dsimp only at c8);go_simp;(try with_reducible rfl)))|refine tkf 21 40 (v:=undef) rfl rfl (by kernel_rfl) (fun _ _ _ h=>h) (Or.inr ⟨by rfl,rfl⟩) (by assumption) ?_);simp only[Nat.reduceSub,Act.put,Jp,J0,Jz])
    refine wpAnyH_done (by kernel_rfl) ?_ _
    go_wp2
    go_meet
    exact⟨rfl,I.o⟩
   obtain⟨rfl,a7⟩:=hcut;have b5:=A.up a7;clear a7
   go_wp2
   go_ret
   exact⟨Oy G.o.symm,b5.o⟩
  have V:=Hd b4;clear b4;obtain⟨q,hq⟩:=Oa (G9 (T.take k) u);rw[hq] at b6 Z d7;clear hq
  go_cut [40] (fun s40 wx=>s40=.bool (decide (0<=q))/\Up wr wx)
  case first=>
   go_region_held3 (fun W=>W.cell? ⟨w.heap.size,0,none⟩=some vs/\W.cell? ⟨w.heap.size,1,none⟩=some vf/\W.cell? ⟨w.heap.size,2,none⟩=some (.slice (some ⟨bt,0,none⟩) T.length ct)/\W.cell? ⟨bt,k*6,none⟩=some (.int .i64 u.op)/\W.cell? ⟨bt,k*6+1,none⟩=some (.string (Oo u.sort))/\W.cell? ⟨bt,k*6+2,none⟩=some (.string (Oo u.text))/\W.cell? ⟨bt,k*6+3,none⟩=some (.int .i64 u.a)/\W.cell? ⟨bt,k*6+4,none⟩=some (.int .i64 u.b)/\W.cell? ⟨bt,k*6+5,none⟩=some (.slice pa u.kids.length ca)) (first
    | assumption|go_keep) (first
    | (go_at_call 49;refine (b9.o wr.drew A.o.drew).mono ?_;rw[V.o];rintro e w6 ⟨rfl,d⟩;have I:Hid (Up wr w6):=⟨d.os,d.tape,d.output,d.size,d.block⟩;have h8:=U.o w6 I.o;clear d)
    | (go_at_call 50;refine (d7.o w6 I.o).mono ?_;rintro e w7 ⟨rfl,e1⟩;have d4:=I.up e1;have h9:=U.o w7 d4.o;clear e1))
   all_goals (go_wp2;go_meet;exact⟨rfl,d4.o⟩)
  obtain⟨rfl,a7⟩:=hcut;have b5:=e5.up a7;clear a7
  by_cases hq:0<=q
  ·have G:=Hd (b6.o (by rw[V.o,Jc (by omega)];rfl));rw[Ja hq];clear hq
   go_wp2
   go_ret
   exact⟨Oy G.o.symm,O.o.trans (b5.o.mono O.o.size)⟩
  have HR:=Hd (Z.o (by rw[V.o,Ja (by omega)];rfl));rw[Jc hq];clear hq
  go_wp2
  go_roundw
  case rel=>exact⟨k+1,by omega,by go_num,HR.o,b5.o⟩
  simp[intOf];omega
 have G:Hid (Gn S num F T=true):=IE h3 e6.o (fun i hi=>HP.o i hi (by omega));have z5:¬ (k:Int)<(T.length:Int):=by omega
 go_wp2
 go_ret
 exact⟨Oy G.o.symm,A.o⟩
end Go.Proofs.YtdmdmgfjpomdbaaGreatDoor
