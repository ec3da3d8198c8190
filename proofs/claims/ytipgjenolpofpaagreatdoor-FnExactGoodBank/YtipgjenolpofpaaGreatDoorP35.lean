import Derived.Test.YtipgjenolpofpaaGreatDoorP32
import Derived.Test.YtipgjenolpofpaaGreatDoorP33
import Derived.Test.YtipgjenolpofpaaGreatDoorP34
import Derived.Maps.AppendAt
set_option maxRecDepth 100000
set_option maxHeartbeats 16000000
namespace Go.Proofs.YtipgjenolpofpaaGreatDoor
open Go.ChangeShapes Go.WideShapes Go.ChangeAt Go.RowKit Go.Proofs.Tryz
theorem Bj (vs vf vt:Value)(S:List (List UInt8))(num:Tm->Bool)(F:List Fn)(T:List Tm)(n:Nat)(t:Tm)(vk:Value)(w:World)(hk:U6 w vk t.kids)(ho:¬ (1<=t.op/\t.op<=47)) :
 Calls prog 41 #[.agg #[vs,vf,vt],.int .i64 (n:Nat),.agg #[.int .i64 t.op,.string (Oo t.sort),.string (Oo t.text),.int .i64 t.a,.int .i64 t.b,vk]] w fun e w'=>e=.returned (.bool (Kd S num F T n t))/\Up w w':=by
 obtain⟨K,M,rfl,A,d,-⟩:=hk;obtain⟨o,so,J,a,b,G⟩:=t;simp only at A d ho ⊢;have h:Hid (Kf ⟨o,so,J,a,b,G⟩=false):=by unfold Hid Kf;simp only;rw[Jg ho];rfl
 have O:=Hd d;clear ho;have E:Hid (Up w ((w.alloc (.cells #[vs,vf,vt] 32)).alloc (.cells #[.int .i64 o,.string (Oo so),.string (Oo J),.int .i64 a,.int .i64 b,.slice K G.length M] 57))):=((Jh _ _).alloc Of _).alloc (by rw[Ji];omega) _
 go_enter func41,ntmps41
 go_wp2_with fail
 refine (Gi ⟨o,so,J,a,b,G⟩ K M _ A O.o).mono ?_;rw[h.o];rintro e U ⟨rfl,j⟩;have I:=E.up j;clear j
 go_wp2_with fail
 go_ret
 exact⟨Oz (by unfold Kd;rw[h.o];rfl),I.o⟩
theorem Ao (vs vf vt:Value)(S:List (List UInt8))(num:Tm->Bool)(F:List Fn)(T:List Tm)(n:Nat)(t:Tm)(vk:Value)(w:World)(hS:O8 w vs S)(hF:Ex w vf F)(hT:Kb w vt T)(hk:U6 w vk t.kids)(hn:n<=T.length)(hTl:T.length<=1048576)(hFl:F.length<=1048576)(hkl:t.kids.length<=1048576)
 (hzs:t.sort.length<=1048576) (hzt:t.text.length<=1048576) (hz:∀ u∈T,u.sort.length<=1048576) (hnum:∀ w',Up w w'->Calls prog 71 #[.agg #[.int .i64 t.op,.string (Oo t.sort),.string (Oo t.text),.int .i64 t.a,.int .i64 t.b,vk]] w' fun e w''=>e=.returned (.bool (num t))/\Below w'.heap.size w' w'') :
 Calls prog 41 #[.agg #[vs,vf,vt],.int .i64 (n:Nat),.agg #[.int .i64 t.op,.string (Oo t.sort),.string (Oo t.text),.int .i64 t.a,.int .i64 t.b,vk]] w fun e w'=>e=.returned (.bool (Kd S num F T n t))/\Up w w':=by
 by_cases d:¬ (1<=t.op/\t.op<=47)
 ·exact Bj vs vf vt S num F T n t vk w hk d
 rcases (show (1<=t.op/\t.op<=5)∨(6<=t.op/\t.op<=10)∨(11<=t.op/\t.op<=15)∨(16<=t.op/\t.op<=20)∨(21<=t.op/\t.op<=47) by omega) with h|h|h|h|h
 ·exact OG vs vf vt S num F T n t vk w hS hF hT hk hn hTl hFl hkl h hzs hzt hz hnum
 ·exact YJ vs vf vt S num F T n t vk w hS hF hT hk hn hTl hFl hkl h hzs hzt hz hnum
 ·exact ZA vs vf vt S num F T n t vk w hS hF hT hk hn hTl hFl hkl h hzs hzt hz hnum
 ·exact ZJ vs vf vt S num F T n t vk w hS hF hT hk hn hTl hFl hkl h hzs hzt hz hnum
 exact ZQ vs vf vt S num F T n t vk w hS hF hT hk hn hTl hFl hkl h hzs hzt hz hnum
def Hu (L:List (List UInt8)):Bool:=(List.range L.length).all (fun i=>match L[i]? with|none=>true|some s=>E5 s&&!On (L.take i) s)
def N3 (S:List (List UInt8))(F:List Fn):Bool:=decide (S.length+F.length<=300)&&Hu (S++F.map (·.name))&&F.all (Kj (On S))
theorem freshL_no {L:List (List UInt8)}{i:Nat}(h:i<L.length)(hb:(E5 L[i]&&!On (L.take i) L[i])=false):Hu L=false:=by
 unfold Hu;rw[J9];intro d;have:=Ju.1 d i (Y6.2 h);rw[Jf h] at this;simp only at this;rw[hb] at this
 cases this
theorem VK {L:List (List UInt8)}(h:∀ i (h:i<L.length),(E5 L[i]&&!On (L.take i) L[i])=true):Hu L=true:=by
 unfold Hu;rw[Ju];intro i d;have d:=Y6.1 d;rw[Jf d];exact h i d
theorem NN {w:World}{p:Option Addr}{n c:Nat}{L:List (List UInt8)}(h:O8 w (.slice p n c) L){k:Nat}(hk:k<=L.length):O8 w (.slice p k c) (L.take k):=by
 obtain⟨A,j,e,E,d,h3⟩:=h;simp only[Value.slice.injEq] at e;obtain⟨rfl,rfl,rfl⟩:=e;refine⟨p,c,by rw[J3,Zi hk],by rw[J3,Zi hk];omega,d,?_⟩
 rcases h3 with h3|⟨b,e,hl,hc⟩
 ·exact .inl (by rw[h3,List.take_nil])
 exact .inr ⟨b,e,hl,fun i hi=>by
  rw[J3] at hi;rw[hc i (by omega),List.getElem_take]⟩
theorem Lc {ops:Array Oper}{rest:List Oper}{o:Oper}{a:Act}{Q:Exit->Act->World->Prop}{W:World}{base n c:Nat}{v:Value}{xs:List Value}{ad:Addr}{L:List (List UInt8)}(hgd:o.guard=none)(s y:Operand)
 (ho:o.op=.call { callee:=.builtin .append,args:=#[s,y],argTypes:=#[22,22] }) (hs:a.eval s=v) (hown:W.ownsRow base 9 1 v n xs)
 (hx:a.eval y=.slice (some ad) L.length c) (hc:∀ i (h:i<L.length),W.cell? (ad.add i)=some (.string (Oo L[i]))) (hn:n+L.length<=1000000000) (hbase:base<=W.heap.size)
 (h:∀ v' W',W'.ownsRow base 9 1 v' (n+L.length) (xs++U3 L)->W.grownBy W' v.ownBlock->wpList prog ops Q rest (a.put o.dst v') W') :
 wpList prog ops Q (o::rest) a W:=by
 obtain⟨i0,d,E,G,A⟩:=Rp;obtain⟨v',w',J,M,h3,_,_⟩:=run_append_own_at (P:=prog) W base 22 o.type 9 i0 _ 1 16 underlying22 d E G A rfl (by decide) v n xs hown ad L.length c (U3 L) (by simp[U3]) (fun j u hu=>by
  have I:j<L.length:=by have:=(Zs.1 hu).1;simpa[U3] using this
  rw[hc j I,<-hu];simp[U3,List.getElem?_eq_getElem I]) (fun u hu=>by
  simp only[U3,Zm] at hu;obtain⟨x,_,rfl⟩:=hu;rfl) (by unfold maxLen;omega) (by omega) hbase
 refine wpList_plain hgd fun K hK=>?_;unfold Oper.wp;simp[execOp,ho,resolve,invoke,builtin,hs,hx,J,Result.andThen];exact hK _ _ (h v' w' M h3)
theorem Ll (vs vf vt:Value)(S:List (List UInt8))(F:List Fn)(w:World)(hS:O8 w vs S)(hF:Ex w vf F)(hz:∀ s∈S,s.length<=1048576)(hzf:∀ f∈F,f.name.length<=1048576/\f.sort.length<=1048576/\∀ a∈f.args,a.length<=1048576)(hl:S.length<=1048576)(hfl:F.length<=1048576)(hvs:∃ ad n c,vs=.slice (some ad) n c) :
 Calls prog 40 #[.agg #[vs,vf,vt]] w fun e w'=>e=.returned (.bool (N3 S F))/\Up w w':=by
 have HS:=Hd hS;have HF:=Hd hF;have HZ:=Hd hz;have k8:=Hd hzf;obtain⟨ad,n0,c0,e0⟩:=hvs;obtain⟨ps,cs,rfl,s1,s2,s3⟩:=hS;simp only[Value.slice.injEq] at e0;obtain⟨rfl,rfl,rfl⟩:=e0;obtain⟨pf,cf,rfl,f1,f2,f3⟩:=hF;have m5:=Hd s3;have i7:=Hd f3;unfold maxLen at s2 f2;clear hz hzf s3 f3;have l4:Hid (Bx (w.alloc (.cells #[.slice (some ad) S.length cs,.slice pf F.length cf,vt] 32)) w.heap.size [.slice (some ad) S.length cs,.slice pf F.length cf,vt]):=Ox w _ _;have g3:Hid (Up w (w.alloc (.cells #[.slice (some ad) S.length cs,.slice pf F.length cf,vt] 32))):=Oy _ _
 by_cases U:¬ (S.length+F.length<=300)
 ·have G:Hid (N3 S F=false):=by unfold Hid N3;rw[Jg U];rfl
  have y:decide ((300:Int)<(S.length:Int)+(F.length:Int))=true:=dT (by omega)
  have y':(300:Int)<(S.length:Int)+(F.length:Int):=by omega
  go_enter func40,ntmps40
  go_wp2_with fail
  go_ret
  exact⟨Oz G.o.symm,g3.o⟩
 have U:=Decidable.not_not.1 U;have y':(S.length:Int)+(F.length:Int)<=300:=by omega
 have K:Hid (N3 S F=(Hu (S++F.map (·.name))&&F.all (Kj (On S)))):=by unfold Hid N3;rw[Jb U];rfl
 go_enter func40,ntmps40
 go_wp2_with (at_builtin;refine Lc (n:=0) (base:=w.heap.size+1) (xs:=[]) (L:=S) rfl _ _ rfl rfl ?own rfl ?hc ?hn ?hb ?_)
 case own=>exact⟨rfl,.inl ⟨rfl,rfl⟩⟩
 case hc=>
  intro i hi
  rcases m5.o with e0|⟨b,e,hb,hc⟩
  ·rw[e0] at hi;cases hi
  ·cases e
   rw[show ((⟨b,0,none⟩:Addr).add i)=⟨b,i,none⟩ by unfold Addr.add;split<;>simp_all];exact (g3.o.cell (p:=⟨b,i,none⟩) hb).trans (hc i hi)
 case hn=>omega
 case hb=>rw[Ji];omega
 intro v2 w2 b8 E;have g9:Hid (Below (w.heap.size+1) (w.alloc (.cells #[.slice (some ad) S.length cs,.slice pf F.length cf,vt] 32)) w2):=⟨E.os,E.tape,E.output,E.size,fun k hk=>E.block k (by rw[Ji];exact hk) (fun e=>by cases e)⟩;have g2:=Hd b8;have g8:Hid (Bx w2 w.heap.size [.slice (some ad) S.length cs,.slice pf F.length cf,vt]):=l4.o.below (N:=w.heap.size+1) (by omega) g9.o;have i8:Hid (Up w w2):=g3.o.trans (g9.o.mono (by omega));have d6:Hid (w.heap.size+1<=w2.heap.size):=by have:=E.size;rw[Ji] at this;exact this
 clear b8 E;obtain⟨p3,c3,rfl⟩:=Eg g2.o;obtain⟨M,hM⟩:=O1 (F.map (·.name));have d4:Hid (M.length=F.length):=by unfold Hid;rw[<-hM];simp
 have m6:Hid (∀ k (h:k<F.length) (h':k<M.length),M[k]=F[k].name):=by
  intro k h h';subst hM;simp
 rw[hM] at K;have HM:=Hd hM;clear hM;obtain⟨N,hN⟩:=O1 (w.heap.size+1);have HN:=Hd hN;rw[hN] at g2 g9 d6;clear hN;have b0:=g8.o.c3.1;have b1:=g8.o.c3.2.1
 go_wp2_with fail
 clear b0 b1
 go_loopw [3,25] (fun v i wr=>∃ k:Nat,k<=F.length/\i=.int .i64 (k:Nat)/\wr.ownsRow N 9 1 v (S.length+k) (U3 (S++M.take k))/\Below N w2 wr) (fun _ i _=>F.length - (intOf i).toNat)
 case atStart=>exact⟨0,Jy _,rfl,by simpa using g2.o,Jh _ _⟩
 case round=>
  obtain⟨k,hk,rfl,b3,g0⟩:=hrel;have O:=Hd b3;have c6:=Hd g0;have Y:Hid (Up w wr):=i8.o.trans (g0.mono (by have:=HN.o;omega));obtain⟨p7,c7,rfl⟩:=Eg b3;clear b3 g0
  by_cases I:k<F.length
  ·rcases i7.o with e0|⟨bf,rfl,J,b7⟩
   ·rw[e0] at I;cases I
   obtain⟨k0,⟨va,k1,pa,ca,rfl,h9,l5,-⟩,k2⟩:=b7 k I;have k0:=(Y.o.cell (p:=⟨bf,k*3,none⟩) J).trans k0;have k1:=(Y.o.cell (p:=⟨bf,k*3+1,none⟩) J).trans k1;have k2:=(Y.o.cell (p:=⟨bf,k*3+2,none⟩) J).trans k2;have i0:(0:Int)<=(k:Int):=by omega
   have i1:(k:Int)<(F.length:Int):=by omega
   clear b7;have j7:Hid (M.take (k+1)=M.take k++[F[k].name]):=by
    have h:=d4.o;unfold Hid;rw[Ye (by omega),m6.o k I (by omega)]
   generalize F[k]=x at k0 k1 k2 j7
   go_wp2_with (at_builtin;refine Nr (t:=Oo x.name) (n:=S.length+k) (base:=N) (xs:=U3 (S++M.take k)) rfl _ _ rfl rfl ?own _ rfl ?hH ?hn ?hb ?_)
   case own=>exact O.o.alloc _
   case hH=>rw[Ji]
   case hn=>omega
   case hb=>have:=c6.o.size;have:=d6.o;rw[Ji];omega
   intro g5 c5 w5 b9 e2 h7;have c8:Hid (Below N w2 w5):=Nl (c6.o.alloc (by have:=c6.o.size;have:=d6.o;omega) _) (O.o.alloc _) e2 (by have:=c6.o.size;have:=d6.o;rw[Ji];omega);have m8:Hid (w5.ownsRow N 9 1 (.slice (some ⟨g5,0,none⟩) (S.length+k+1) c5) (S.length+(k+1)) (U3 (S++M.take (k+1)))):=by
    unfold Hid;rw[j7.o,<-List.append_assoc];have e:U3 (S++M.take k++[x.name])=U3 (S++M.take k)++[.string (Oo x.name)]:=by simp[U3]
    rw[e];exact b9
   clear b9 e2 h7
   go_wp2_with fail
   go_roundw
   case rel=>exact⟨k+1,by omega,by go_num,m8.o,c8.o⟩
   case measure=>simp[intOf];omega
  ·obtain rfl:k=F.length:=by omega
   have e1:Hid (O8 wr (.slice p7 (S.length+F.length) c7) (S++M)):=by
    have h:=O.o;rw[<-d4.o,Yl] at h;rw[<-d4.o];exact I3 h (by simp)
   have k7:Hid (∀ s∈S++M,s.length<=1048576):=fun s hs=>by
    rcases Z5.1 hs with h|h
    ·exact HZ.o s h
    ·rw[<-HM.o] at h;obtain⟨f,hf,rfl⟩:=Zm.1 h;exact (k8.o f hf).1
   obtain⟨A,g1⟩:=O1 (S++M);have b5:Hid (A.length=S.length+F.length):=by unfold Hid;rw[<-g1,Y7,d4.o]
   rw[g1] at e1 K k7;clear g1 I hk O;have d9:Hid (Bx wr w.heap.size [.slice (some ad) S.length cs,.slice pf F.length cf,vt]):=g8.o.below (N:=N) (by have:=HN.o;omega) c6.o
   go_wp2_with fail
   obtain⟨W4,rfl⟩:∃ W4,W4=wr:=⟨_,rfl⟩;have o1:(A.length:Int)=(S.length:Int)+(F.length:Int):=by have:=b5.o;omega
   go_loopw [37] (fun i wq=>∃ k:Nat,k<=A.length/\i=.int .i64 (k:Nat)/\(∀ j (h:j<A.length),j<k->(E5 A[j]&&!On (A.take j) A[j])=true)/\Up W4 wq) (fun i _=>A.length - (intOf i).toNat)
   case atStart=>exact⟨0,Jy _,rfl,fun j _ h=>absurd h (J1 _),Jh _ _⟩
   case round=>
    obtain⟨k,hk,rfl,hp,d2⟩:=hrel;have HP:=Hd hp;have e6:=Hd d2;have g7:=Y.up d2;have f5:=Hd (e1.o.below d2);clear hp d2
    by_cases I:k<A.length
    ·obtain⟨bs,rfl,j6⟩:=Nn f5.o (by omega);have ck:=j6 k I;clear j6;have i0:(0:Int)<=(k:Int):=by omega
     have i1:(k:Int)<(S.length:Int)+(F.length:Int):=by omega
     have i2:k<S.length+F.length:=by omega
     have g4:(Oo A[k]).size<=maxLen:=by
      have:=k7.o _ (Jw I)
      show A[k].toArray.size<=_
      unfold maxLen;simp;omega
     have d5:Hid ((E5 A[k]&&!On (A.take k) A[k])=false->N3 S F=false):=fun h=>by rw[K.o,freshL_no I h];rfl
     have e3:Hid ((E5 A[k]&&!On (A.take k) A[k])=true->∀ j (h:j<A.length),j<k+1->(E5 A[j]&&!On (A.take j) A[j])=true):=fun h j hj h2=>by
      rcases J0.1 h2 with h3|rfl
      ·exact HP.o j hj h3
      ·exact h
     have l3:=Hd (NN f5.o (k:=k) hk);generalize A[k]=s at ck g4 d5 e3
     go_wp2_with fail
     refine (Ew (Oo s) _ g4).mono ?_;rw[Ou]
     cases d7:E2 s
     ·have G:Hid (N3 S F=false):=d5.o (by unfold E5;rw[d7];rfl);clear d7;rintro e w5 ⟨rfl,rfl⟩
      go_wp2_with fail
      go_ret
      exact⟨Oz G.o.symm,g7.o⟩
     have l9:=Hd d7;clear d7;rintro e w5 ⟨rfl,rfl⟩
     go_wp2_with fail
     refine (As (Oo s) _ g4).mono ?_;rw[Ou]
     cases d0:Gc s
     ·have l7:=Hd d0;clear d0;rintro e w6 ⟨rfl,V⟩;have j4:=e6.up V;have b4:Hid (Up w w6):=Y.o.trans (j4.o.mono Y.o.size);have j5:=Hd (l3.o.below V);have o4:S.length+F.length<=c7:=by
       obtain⟨p',c',e,h1,h2,_⟩:=f5.o;simp only[Value.slice.injEq] at e;have:=b5.o;omega
      clear V
      go_wp2_with fail
      refine (Gn _ (A.take k) (Oo s) _ j5.o).mono ?_;rw[Ou]
      cases d1:On (A.take k) s
      ·have HR:=Hd (e3.o (by unfold E5;rw[l9.o,l7.o,d1];rfl));clear d1;rintro e w7 ⟨rfl,rfl⟩
       go_wp2_with fail
       go_roundw
       case rel=>exact⟨k+1,by omega,by go_num,HR.o,j4.o⟩
       case measure=>simp[intOf];omega
      ·have G:Hid (N3 S F=false):=d5.o (by rw[d1];simp);clear d1;rintro e w7 ⟨rfl,rfl⟩
       go_wp2_with fail
       go_ret
       exact⟨Oz G.o.symm,b4.o⟩
     ·have G:Hid (N3 S F=false):=d5.o (by unfold E5;rw[d0];simp);clear d0;rintro e w6 ⟨rfl,V⟩;have b4:=g7.up V;clear V
      go_wp2_with fail
      go_ret
      exact⟨Oz G.o.symm,b4.o⟩
    ·have k9:Hid (N3 S F=F.all (Kj (On S))):=by
      unfold Hid;rw[K.o,VK (fun i hi=>HP.o i hi (by omega))];rfl
     have l8:=(d9.o.below d9.o.lt e6.o).c3;obtain⟨b0,b1,b2⟩:=l8;have z3:¬ (k:Int)<(S.length:Int)+(F.length:Int):=by omega
     have z4:¬ k<S.length+F.length:=by omega
     obtain⟨W5,rfl⟩:∃ W5,W5=wr:=⟨_,rfl⟩;have j2:Hid (Bx W5 w.heap.size [.slice (some ad) S.length cs,.slice pf F.length cf,vt]):=d9.o.below d9.o.lt e6.o
     go_wp2_with fail
     clear b0 b1 b2
     go_loopw [60] (fun i wq=>∃ m:Nat,m<=F.length/\i=.int .i64 (m:Nat)/\(∀ j (h:j<F.length),j<m->Kj (On S) F[j]=true)/\Up W5 wq) (fun i _=>F.length - (intOf i).toNat)
     case atStart=>exact⟨0,Jy _,rfl,fun j _ h=>absurd h (J1 _),Jh _ _⟩
     case round=>
      obtain⟨m,hm,rfl,i6,d8⟩:=hrel;have j9:=Hd i6;have c8:=Hd d8;have d:=g7.up d8;obtain⟨b0,b1,b2⟩:=(j2.o.below j2.o.lt d8).c3;clear i6 d8
      by_cases b6:m<F.length
      ·rcases i7.o with e0|⟨bf,rfl,J,b7⟩
       ·rw[e0] at b6;cases b6
       obtain⟨k0,⟨va,k1,h8⟩,k2⟩:=b7 m b6;have j8:=Hd (h8.below d.o);obtain⟨pa,ca,rfl,h9,l5,-⟩:=h8;have k0:=(d.o.cell (p:=⟨bf,m*3,none⟩) J).trans k0;have k1:=(d.o.cell (p:=⟨bf,m*3+1,none⟩) J).trans k1;have k2:=(d.o.cell (p:=⟨bf,m*3+2,none⟩) J).trans k2;have j0:(0:Int)<=(m:Int):=by omega
       have j1:(m:Int)<(F.length:Int):=by omega
       have e9:=Hd (k8.o _ (Jw b6));clear b7;have e5:Hid (Kj (On S) F[m]=false->N3 S F=false):=fun h=>by
        rw[k9.o,J9];intro h2;have:=Ju.1 h2 _ (Jw b6);rw[h] at this
        cases this
       have a8:Hid (Kj (On S) F[m]=true->∀ j (h:j<F.length),j<m+1->Kj (On S) F[j]=true):=fun h j hj h2=>by
        rcases J0.1 h2 with h3|rfl
        ·exact j9.o j hj h3
        ·exact h
       generalize F[m]=x at k0 k1 k2 j8 e9 e5 a8 h9;have Z:Hid (Up wr (wr.alloc (.cells #[.string (Oo x.name),.slice pa x.args.length ca,.string (Oo x.sort)] 47))):=Oy _ _;have l1:w.heap.size<wr.heap.size:=Yd _ _ b0
       go_wp2_with fail
       refine (T8 _ _ S x _ ((HS.o.below d.o).below Z.o) (j8.o.below Z.o) e9.o.2.2 e9.o.2.1).mono ?_
       cases d3:Kj (On S) x
       ·have G:=Hd (e5.o d3);clear d3;rintro e w8 ⟨rfl,a7⟩;have h0:Hid (Up w w8):=d.o.trans ((Z.o.trans (a7.mono Z.o.size)).mono d.o.size);clear a7
        go_wp2_with fail
        go_ret
        exact⟨Oz G.o.symm,h0.o⟩
       ·have HR:=Hd (a8.o d3);clear d3;rintro e w8 ⟨rfl,a7⟩;have h0:Hid (Up W5 w8):=c8.o.trans ((Z.o.trans (a7.mono Z.o.size)).mono c8.o.size);clear a7
        go_wp2_with fail
        go_roundw
        case rel=>exact⟨m+1,by omega,by go_num,HR.o,h0.o⟩
        case measure=>simp[intOf];omega
      ·have G:Hid (N3 S F=true):=by
        unfold Hid;rw[k9.o,Ju];intro x hx;obtain⟨j,hj,rfl⟩:=Ya hx;exact j9.o j hj (by omega)
       have z5:¬ (m:Int)<(F.length:Int):=by omega
       go_wp2_with fail
       go_ret
       exact⟨Oz G.o.symm,d.o⟩
def Hh (S:List (List UInt8))(num:Tm->Bool)(F:List Fn)(T:List Tm):Bool:=decide (T.length<=3000)&&N3 S F&&(List.range T.length).all (fun i=>match T[i]? with|none=>true|some t=>Kd S num F T i t&&decide (Gg (T.take i) t<0))
theorem CJ {P:Program}{ops:Array Oper}{Q:Exit->Act->World->Prop}{md:Region.Mode}{S:World->Prop}{i d:Nat}{oi:Oper}{v:Value}{fuel:Nat}{listed:Array Bool}{a:Act}{w:World}(hi:ops[i]? = some oi)(hd:oi.dst=some d)
 (hs:Region.noSelect ops=true) (hf:Region.free md ops listed i=true) (hr:(Region.ready md ops listed).contains i=true)
 (hQ:∀ c a w,Q (.panic c) (a.put (some d) v) w->Q (.panic c) a w) (hy:YieldsIf P ops S oi v a) (hS:S w)
 (h:wpAnyH P md ops Q S fuel (listed.setIfInBounds i true) (a.put (some d) v) w):wpAnyH P md ops Q S (fuel+1) listed a w:=by
 rw[<-hd] at hQ h;exact wpAnyH_take hi hs hf hr hQ hy hS h
theorem tk {P:Program}{ops:Array Oper}{Q:Exit->Act->World->Prop}{md:Region.Mode}{S:World->Prop}(i d:Nat){oi:Oper}{v:Value}{fuel:Nat}{listed:Array Bool}{a:Act}{w:World}(hi:ops[i]? = some oi)(hd:oi.dst=some d)
 (hc:(Region.noSelect ops&&(Region.free md ops listed i&&(Region.ready md ops listed).contains i))=true) (hQ:∀ c a w,Q (.panic c) (a.put (some d) v) w->Q (.panic c) a w) (hy:YieldsIf P ops S oi v a) (hS:S w)
 (h:wpAnyH P md ops Q S fuel (listed.setIfInBounds i true) (a.put (some d) v) w):wpAnyH P md ops Q S (fuel+1) listed a w:=by
 rw[J4,J4] at hc;exact CJ hi hd hc.1 hc.2.1 hc.2.2 hQ hy hS h
theorem IT {S:List (List UInt8)}{num:Tm->Bool}{F:List Fn}{T:List Tm}{i:Nat}(h:i<T.length)(hb:(Kd S num F T i T[i]&&decide (Gg (T.take i) T[i]<0))=false):Hh S num F T=false:=by
 unfold Hh;have:(List.range T.length).all (fun i=>match T[i]? with|none=>true|some t=>Kd S num F T i t&&decide (Gg (T.take i) t<0))=false:=by
  rw[J9];intro d;have:=Ju.1 d i (Y6.2 h);rw[Jf h] at this;simp only at this;rw[hb] at this
  cases this
 rw[this,Y0]
theorem GM {S:List (List UInt8)}{num:Tm->Bool}{F:List Fn}{T:List Tm}(h3:T.length<=3000)(hn:N3 S F=true)(h:∀ i (h:i<T.length),(Kd S num F T i T[i]&&decide (Gg (T.take i) T[i]<0))=true):Hh S num F T=true:=by
 unfold Hh;rw[Jb h3,hn,Za,Za,Ju];intro i d;have d:=Y6.1 d;rw[Jf d];exact h i d
theorem VU {w:World}{p:Option Addr}{n c:Nat}{L:List Tm}(h:Kb w (.slice p n c) L){k:Nat}(hk:k<=L.length):Kb w (.slice p k c) (L.take k):=by
 obtain⟨A,j,e,E,d,h3⟩:=h;simp only[Value.slice.injEq] at e;obtain⟨rfl,rfl,rfl⟩:=e;refine⟨p,c,by rw[J3,Zi hk],by rw[J3,Zi hk];omega,d,?_⟩
 rcases h3 with h3|⟨b,e,hl,hc⟩
 ·exact .inl (by rw[h3,List.take_nil])
 exact .inr ⟨b,e,hl,fun i hi=>by
  rw[J3] at hi;have:=hc i (by omega);rw[List.getElem_take];exact this⟩
theorem L9 (vs vf vt:Value)(S:List (List UInt8))(num:Tm->Bool)(F:List Fn)(T:List Tm)(w:World)(hS:O8 w vs S)(hF:Ex w vf F)(hT:Kb w vt T)(hz:∀ s∈S,s.length<=1048576)(hzf:∀ f∈F,f.name.length<=1048576/\f.sort.length<=1048576/\∀ a∈f.args,a.length<=1048576)(hzt:∀ t∈T,t.sort.length<=1048576/\t.text.length<=1048576/\t.kids.length<=1048576)(hl:S.length<=1048576)(hfl:F.length<=1048576)(htl:T.length<=1048576)(hvs:∃ ad n c,vs=.slice (some ad) n c)
 (hnum:∀ t∈T,∀ vk w',Up w w'->Calls prog 71 #[.agg #[.int .i64 t.op,.string (Oo t.sort),.string (Oo t.text),.int .i64 t.a,.int .i64 t.b,vk]] w' fun e w''=>e=.returned (.bool (num t))/\Below w'.heap.size w' w'') :
 Calls prog 9 #[.agg #[vs,vf,vt]] w fun e w'=>e=.returned (.bool (Hh S num F T))/\Up w w':=by
 have HS:=Hd hS;have HF:=Hd hF;have HT:=Hd hT;have HZ:=Hd hz;have e7:=Hd hzf;have c6:=Hd hzt;have d8:=Hd hnum;have f5:=Hd hvs;obtain⟨pt,ct,rfl,t1,t2,t3⟩:=hT;have e6:=Hd t3;unfold maxLen at t2;clear hS hF hz hzf hzt hvs hnum t3;have d5:Hid (Bx (w.alloc (.cells #[vs,vf,.slice pt T.length ct] 32)) w.heap.size [vs,vf,.slice pt T.length ct]):=Ox w _ _;have b5:Hid (Up w (w.alloc (.cells #[vs,vf,.slice pt T.length ct] 32))):=Oy _ _
 by_cases h3:¬ (T.length<=3000)
 ·have G:Hid (Hh S num F T=false):=by unfold Hid Hh;rw[Jg h3];rfl
  have y':(3000:Int)<(T.length:Int):=by omega
  go_enter func9,ntmps9
  go_wp2_with fail
  go_ret
  exact⟨Oz G.o.symm,b5.o⟩
 have h3:=Decidable.not_not.1 h3;have y':(T.length:Int)<=3000:=by omega
 go_enter func9,ntmps9
 go_wp2_with fail
 refine (Ll vs vf _ S F _ (HS.o.below b5.o) (HF.o.below b5.o) HZ.o e7.o hl hfl f5.o).mono ?_
 cases b8:N3 S F
 ·have G:Hid (Hh S num F T=false):=by unfold Hid Hh;rw[b8,Y0,Uj]
  clear b8;rintro e w2 ⟨rfl,O⟩;have a8:=b5.up O;clear O
  go_wp2_with fail
  go_ret
  exact⟨Oz G.o.symm,a8.o⟩
 have e5:=Hd b8;clear b8;rintro e w2 ⟨rfl,O⟩;have a8:=b5.up O;have a7:=Hd (d5.o.below d5.o.lt O);clear O;have b2:=a7.o.c3.2.2
 go_wp2_with fail
 clear b2
 go_loopw [16] (fun i wr=>∃ k:Nat,k<=T.length/\i=.int .i64 (k:Nat)/\(∀ j (h:j<T.length),j<k->(Kd S num F T j T[j]&&decide (Gg (T.take j) T[j]<0))=true)/\Up w2 wr) (fun i _=>T.length - (intOf i).toNat)
 case atStart=>exact⟨0,Jy _,rfl,fun j _ h=>absurd h (J1 _),Jh _ _⟩
 case round=>
  obtain⟨k,hk,rfl,hp,Z⟩:=hrel;have HP:=Hd hp;have e9:=Hd Z;have E:=a8.up Z;obtain⟨b0,b1,b2⟩:=(a7.o.below a7.o.lt Z).c3;have e2:=Hd (a7.o.below a7.o.lt Z);clear hp Z
  by_cases V:k<T.length
  ·rcases e6.o with e0|⟨bt,rfl,M,e3⟩
   ·rw[e0] at V;cases V
   obtain⟨c0,c1,c2,c3,c4,va,c5,d6⟩:=e3 k V;have d1:=Hd d6;obtain⟨pa,ca,rfl,e8,h9,-⟩:=d6;have d7:Hid (∀ W,Up w W->W.cell? ⟨bt,k*6,none⟩=some (.int .i64 T[k].op)/\W.cell? ⟨bt,k*6+1,none⟩=some (.string (Oo T[k].sort))/\W.cell? ⟨bt,k*6+2,none⟩=some (.string (Oo T[k].text))/\W.cell? ⟨bt,k*6+3,none⟩=some (.int .i64 T[k].a)/\W.cell? ⟨bt,k*6+4,none⟩=some (.int .i64 T[k].b)/\W.cell? ⟨bt,k*6+5,none⟩=some (.slice pa T[k].kids.length ca)):=fun W h=>
    ⟨(h.cell (p:=⟨bt,k*6,none⟩) M).trans c0,(h.cell (p:=⟨bt,k*6+1,none⟩) M).trans c1,(h.cell (p:=⟨bt,k*6+2,none⟩) M).trans c2,(h.cell (p:=⟨bt,k*6+3,none⟩) M).trans c3,(h.cell (p:=⟨bt,k*6+4,none⟩) M).trans c4,(h.cell (p:=⟨bt,k*6+5,none⟩) M).trans c5⟩
   clear c0 c1 c2 c3 c4 c5 e3;have i0:(0:Int)<=(k:Int):=by omega
   have i1:(k:Int)<(T.length:Int):=by omega
   have i2:(k:Int)<=(ct:Int):=by omega
   have i3:k<=ct:=by omega
   have b7:Hid ((Kd S num F T k T[k]&&decide (Gg (T.take k) T[k]<0))=false->Hh S num F T=false):=IT V;have U:Hid ((Kd S num F T k T[k]&&decide (Gg (T.take k) T[k]<0))=true->∀ j (h:j<T.length),j<k+1->(Kd S num F T j T[j]&&decide (Gg (T.take j) T[j]<0))=true):=fun h j hj h2=>by
    rcases J0.1 h2 with h3|rfl
    ·exact HP.o j hj h3
    ·exact h
   have I:=Hd (Jw V);have f9:Hid (∀ W,Up w W->Kb W (.slice (some ⟨bt,0,none⟩) k ct) (T.take k)):=fun W h=>VU (HT.o.below h) hk;obtain⟨u,hu⟩:=O1 (T[k]);rw[hu] at d1 e8 d7 b7 U I;clear hu;have c8:Hid (∀ W,Up w W->Calls prog 41 #[.agg #[vs,vf,.slice (some ⟨bt,0,none⟩) T.length ct],.int .i64 (k:Nat),.agg #[.int .i64 u.op,.string (Oo u.sort),.string (Oo u.text),.int .i64 u.a,.int .i64 u.b,.slice pa u.kids.length ca]] W fun e w'=>e=.returned (.bool (Kd S num F T k u))/\Up W w'):=fun W h=>
    Ao vs vf _ S num F T k u _ W (HS.o.below h) (HF.o.below h) (HT.o.below h) (d1.o.below h) hk htl hfl (c6.o u I.o).2.2 (c6.o u I.o).1 (c6.o u I.o).2.1 (fun t ht=>(c6.o t ht).1) (fun W' h'=>d8.o u I.o _ W' (h.trans (h'.mono h.size)))
   have Y:Hid (∀ W,Up wr W->W.cell? ⟨w.heap.size,0,none⟩=some vs/\W.cell? ⟨w.heap.size,1,none⟩=some vf/\W.cell? ⟨w.heap.size,2,none⟩=some (.slice (some ⟨bt,0,none⟩) T.length ct)/\W.cell? ⟨bt,k*6,none⟩=some (.int .i64 u.op)/\W.cell? ⟨bt,k*6+1,none⟩=some (.string (Oo u.sort))/\W.cell? ⟨bt,k*6+2,none⟩=some (.string (Oo u.text))/\W.cell? ⟨bt,k*6+3,none⟩=some (.int .i64 u.a)/\W.cell? ⟨bt,k*6+4,none⟩=some (.int .i64 u.b)/\W.cell? ⟨bt,k*6+5,none⟩=some (.slice pa u.kids.length ca)):=fun W h=>by
    have h2:=d7.o W (E.o.trans (h.mono E.o.size));have h1:=(e2.o.below e2.o.lt h).c3;exact⟨h1.1,h1.2.1,h1.2.2,h2⟩
   have e1:Hid (∀ W,Up wr W->Calls prog 42 #[.slice (some ⟨bt,0,none⟩) k ct,.agg #[.int .i64 u.op,.string (Oo u.sort),.string (Oo u.text),.int .i64 u.a,.int .i64 u.b,.slice pa u.kids.length ca]] W fun e w'=>e=.returned (.int .i64 (Gg (T.take k) u))/\Up W w'):=fun W h=>
    VP _ _ (T.take k) u W (f9.o W (E.o.trans (h.mono E.o.size))) (d1.o.below (E.o.trans (h.mono E.o.size)))
   have h8:=Y.o wr (Jh _ _);clear b0 b1 b2
   go_upto_region 6 with fail
   cases b4:Kd S num F T k u
   ·have b3:=Hd b4;have G:=Hd (b7.o (by rw[b4];rfl));clear b4
    go_cut [40] (fun s40 wx=>s40=.bool true/\Up wr wx)
    case first=>
     refine wp_region_held_drew (S:=fun W=>W.cell? ⟨w.heap.size,0,none⟩=some vs/\W.cell? ⟨w.heap.size,1,none⟩=some vf/\W.cell? ⟨w.heap.size,2,none⟩=some (.slice (some ⟨bt,0,none⟩) T.length ct)/\W.cell? ⟨bt,k*6,none⟩=some (.int .i64 u.op)/\W.cell? ⟨bt,k*6+1,none⟩=some (.string (Oo u.sort))/\W.cell? ⟨bt,k*6+2,none⟩=some (.string (Oo u.text))/\W.cell? ⟨bt,k*6+3,none⟩=some (.int .i64 u.a)/\W.cell? ⟨bt,k*6+4,none⟩=some (.int .i64 u.b)/\W.cell? ⟨bt,k*6+5,none⟩=some (.slice pa u.kids.length ca)) (by kernel_rfl) (Y.o wr.drew (Jh _ _).drew) (fun hHeld=>?_);refine tk 0 19 (v:=?_) rfl rfl (by kernel_rfl) (fun _ _ _ h=>h) (Or.inl ⟨by rfl,?_⟩) (by assumption) ?_
     rotate_left
     ·(intro w d;(try dsimp only at d);go_simp;(try with_reducible rfl))
     try simp only[Act.put,Ja,Je,Jd]
     refine tk 1 20 (v:=?_) rfl rfl (by kernel_rfl) (fun _ _ _ h=>h) (Or.inl ⟨by rfl,?_⟩) (by assumption) ?_
     rotate_left
     ·(intro w d;(try dsimp only at d);go_simp;(try with_reducible rfl))
     try simp only[Act.put,Ja,Je,Jd]
     refine tk 2 21 (v:=?_) rfl rfl (by kernel_rfl) (fun _ _ _ h=>h) (Or.inl ⟨by rfl,?_⟩) (by assumption) ?_
     rotate_left
     ·(intro w d;(try dsimp only at d);go_simp;(try with_reducible rfl))
     try simp only[Act.put,Ja,Je,Jd]
     refine tk 3 22 (v:=?_) rfl rfl (by kernel_rfl) (fun _ _ _ h=>h) (Or.inl ⟨by rfl,?_⟩) (by assumption) ?_
     rotate_left
     ·(intro w d;(try dsimp only at d);go_simp;(try with_reducible rfl))
     try simp only[Act.put,Ja,Je,Jd]
     refine tk 4 23 (v:=?_) rfl rfl (by kernel_rfl) (fun _ _ _ h=>h) (Or.inl ⟨by rfl,?_⟩) (by assumption) ?_
     rotate_left
     ·(intro w d;(try dsimp only at d);go_simp;(try with_reducible rfl))
     try simp only[Act.put,Ja,Je,Jd]
     refine tk 5 24 (v:=?_) rfl rfl (by kernel_rfl) (fun _ _ _ h=>h) (Or.inl ⟨by rfl,?_⟩) (by assumption) ?_
     rotate_left
     ·(intro w d;(try dsimp only at d);go_simp;(try with_reducible rfl))
     try simp only[Act.put,Ja,Je,Jd]
     refine tk 6 25 (v:=?_) rfl rfl (by kernel_rfl) (fun _ _ _ h=>h) (Or.inl ⟨by rfl,?_⟩) (by assumption) ?_
     rotate_left
     ·(intro w d;(try dsimp only at d);go_simp;(try with_reducible rfl))
     try simp only[Act.put,Ja,Je,Jd]
     refine wpAnyH_ready (rs:=[7]) (by kernel_rfl) (by simp) ?_;refine AllReadyH.cons rfl (fun K hK=>?_) AllReadyH.nil
     go_simp
     go_at_call 41
     refine (c8.o wr.drew E.o.drew).mono ?_;rw[b3.o];rintro e w6 ⟨rfl,A⟩;have J:Hid (Up wr w6):=⟨A.os,A.tape,A.output,A.size,A.block⟩;clear A
     go_wp2_with fail
     refine hK.o _ _ (Y.o w6 J.o) (fun hHeld2=>?_);clear hK K
     try simp only[Act.put,Ja,Je,Jd]
     refine tk 8 27 (v:=?_) rfl rfl (by kernel_rfl) (fun _ _ _ h=>h) (Or.inl ⟨by rfl,?_⟩) (by assumption) ?_
     rotate_left
     ·(intro w d;(try dsimp only at d);go_simp;(try with_reducible rfl))
     try simp only[Act.put,Ja,Je,Jd]
     refine tk 9 28 (v:=?_) rfl rfl (by kernel_rfl) (fun _ _ _ h=>h) (Or.inl ⟨by rfl,?_⟩) (by assumption) ?_
     rotate_left
     ·(intro w d;(try dsimp only at d);go_simp;(try with_reducible rfl))
     try simp only[Act.put,Ja,Je,Jd]
     refine tk 10 29 (v:=undef) rfl rfl (by kernel_rfl) (fun _ _ _ h=>h) (Or.inr ⟨by rfl,rfl⟩) (by assumption) ?_
     try simp only[Act.put,Ja,Je,Jd]
     refine tk 11 30 (v:=undef) rfl rfl (by kernel_rfl) (fun _ _ _ h=>h) (Or.inr ⟨by rfl,rfl⟩) (by assumption) ?_
     try simp only[Act.put,Ja,Je,Jd]
     refine tk 12 31 (v:=undef) rfl rfl (by kernel_rfl) (fun _ _ _ h=>h) (Or.inr ⟨by rfl,rfl⟩) (by assumption) ?_
     try simp only[Act.put,Ja,Je,Jd]
     refine tk 13 32 (v:=undef) rfl rfl (by kernel_rfl) (fun _ _ _ h=>h) (Or.inr ⟨by rfl,rfl⟩) (by assumption) ?_
     try simp only[Act.put,Ja,Je,Jd]
     refine tk 14 33 (v:=undef) rfl rfl (by kernel_rfl) (fun _ _ _ h=>h) (Or.inr ⟨by rfl,rfl⟩) (by assumption) ?_
     try simp only[Act.put,Ja,Je,Jd]
     refine tk 15 34 (v:=undef) rfl rfl (by kernel_rfl) (fun _ _ _ h=>h) (Or.inr ⟨by rfl,rfl⟩) (by assumption) ?_
     try simp only[Act.put,Ja,Je,Jd]
     refine tk 16 35 (v:=undef) rfl rfl (by kernel_rfl) (fun _ _ _ h=>h) (Or.inr ⟨by rfl,rfl⟩) (by assumption) ?_
     try simp only[Act.put,Ja,Je,Jd]
     refine tk 17 36 (v:=undef) rfl rfl (by kernel_rfl) (fun _ _ _ h=>h) (Or.inr ⟨by rfl,rfl⟩) (by assumption) ?_
     try simp only[Act.put,Ja,Je,Jd]
     refine tk 18 37 (v:=undef) rfl rfl (by kernel_rfl) (fun _ _ _ h=>h) (Or.inr ⟨by rfl,rfl⟩) (by assumption) ?_
     try simp only[Act.put,Ja,Je,Jd]
     refine tk 19 38 (v:=undef) rfl rfl (by kernel_rfl) (fun _ _ _ h=>h) (Or.inr ⟨by rfl,rfl⟩) (by assumption) ?_
     try simp only[Act.put,Ja,Je,Jd]
     refine tk 20 39 (v:=undef) rfl rfl (by kernel_rfl) (fun _ _ _ h=>h) (Or.inr ⟨by rfl,rfl⟩) (by assumption) ?_
     try simp only[Act.put,Ja,Je,Jd]
     refine tk 21 40 (v:=?_) rfl rfl (by kernel_rfl) (fun _ _ _ h=>h) (Or.inl ⟨by rfl,?_⟩) (by assumption) ?_
     rotate_left
     ·(intro w d;(try dsimp only at d);go_simp;(try with_reducible rfl))
     try simp only[Act.put,Ja,Je,Jd]
     refine wpAnyH_done (by kernel_rfl) ?_ _
     go_wp2_with fail
     go_meet
     exact⟨rfl,J.o⟩
    case rest=>
     obtain⟨rfl,b6⟩:=hcut;have b9:=E.up b6;clear b6
     go_wp2_with fail
     go_ret
     exact⟨Oz G.o.symm,b9.o⟩
   ·have b3:=Hd b4;clear b4;obtain⟨q,hq⟩:=O1 (Gg (T.take k) u);rw[hq] at b7 U e1;clear hq
    go_cut [40] (fun s40 wx=>s40=.bool (decide (0<=q))/\Up wr wx)
    case first=>
     go_region_held3 (fun W=>W.cell? ⟨w.heap.size,0,none⟩=some vs/\W.cell? ⟨w.heap.size,1,none⟩=some vf/\W.cell? ⟨w.heap.size,2,none⟩=some (.slice (some ⟨bt,0,none⟩) T.length ct)/\W.cell? ⟨bt,k*6,none⟩=some (.int .i64 u.op)/\W.cell? ⟨bt,k*6+1,none⟩=some (.string (Oo u.sort))/\W.cell? ⟨bt,k*6+2,none⟩=some (.string (Oo u.text))/\W.cell? ⟨bt,k*6+3,none⟩=some (.int .i64 u.a)/\W.cell? ⟨bt,k*6+4,none⟩=some (.int .i64 u.b)/\W.cell? ⟨bt,k*6+5,none⟩=some (.slice pa u.kids.length ca)) (first
      | assumption|go_keep) (first
      | (go_at_call 41;refine (c8.o wr.drew E.o.drew).mono ?_;rw[b3.o];rintro e w6 ⟨rfl,A⟩;have J:Hid (Up wr w6):=⟨A.os,A.tape,A.output,A.size,A.block⟩;have i6:=Y.o w6 J.o;clear A)
      | (go_at_call 42;refine (e1.o w6 J.o).mono ?_;rintro e w7 ⟨rfl,e4⟩;have d9:=J.up e4;have g9:=Y.o w7 d9.o;clear e4))
     all_goals (go_wp2_with fail;go_meet;exact⟨rfl,d9.o⟩)
    case rest=>
     obtain⟨rfl,b6⟩:=hcut;have b9:=e9.up b6;clear b6
     by_cases hq:0<=q
     ·have G:=Hd (b7.o (by rw[b3.o,Jg (by omega)];rfl));rw[Jb hq];clear hq
      go_wp2_with fail
      go_ret
      exact⟨Oz G.o.symm,a8.o.trans (b9.o.mono a8.o.size)⟩
     ·have HR:=Hd (U.o (by rw[b3.o,Jb (by omega)];rfl));rw[Jg hq];clear hq
      go_wp2_with fail
      go_roundw
      case rel=>exact⟨k+1,by omega,by go_num,HR.o,b9.o⟩
      case measure=>simp[intOf];omega
  ·have G:Hid (Hh S num F T=true):=GM h3 e5.o (fun i hi=>HP.o i hi (by omega));have z5:¬ (k:Int)<(T.length:Int):=by omega
   go_wp2_with fail
   go_ret
   exact⟨Oz G.o.symm,E.o⟩
end Go.Proofs.YtipgjenolpofpaaGreatDoor
