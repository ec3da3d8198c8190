import Derived.Test.YtipgjenolpofpaaGreatDoorP00
import Derived.Test.YtipgjenolpofpaaGreatDoorR2
import Derived.Deep.RegionHeld3
set_option maxRecDepth 100000
set_option maxHeartbeats 4000000
namespace Go.Proofs.YtipgjenolpofpaaGreatDoor
open ChangeShapes WideShapes ChangeAt RowKit Proofs.Tryz
def ML (w:World)(g:Nat)(e:TypeId)(n:Nat):Prop:=∃ cur:Array Value,w.heap[g]? = some (.cells cur e (0,0))/\n<=cur.size
theorem ML.lt {w:World}{g n:Nat}{e:TypeId}(h:ML w g e n):g<w.heap.size:=by
 obtain⟨d,h,_⟩:=h;exact (J1.1 h).1
theorem ML.cell {w:World}{g n:Nat}{e:TypeId}(h:ML w g e n){i:Nat}(hi:i<n):∃ x,w.cell? ⟨g,i,none⟩=some x:=by
 obtain⟨d,h,hn⟩:=h;exact⟨d[i]'(by omega),by unfold World.cell?;simp only[h];simp⟩
theorem ML.fz {w:World}{g n:Nat}{e:TypeId}(h:ML w g e n)(i:Nat):w.frozen? ⟨g,i,none⟩=false:=by
 obtain⟨d,h,_⟩:=h;unfold World.frozen?;simp only[h];simp
theorem ML.set {w:World}{g n:Nat}{e:TypeId}(h:ML w g e n)(b i:Nat)(v:Value):ML (w.setCell ⟨b,i,none⟩ v) g e n:=by
 obtain⟨d,h,hn⟩:=h
 by_cases e:g=b
 ·subst e;exact⟨_,heap_setCell_same w g i d _ v h,by simpa using hn⟩
 exact⟨d,(Jq w ⟨b,i,none⟩ v g e).trans h,hn⟩
theorem ML.keep {w w':World}{g n:Nat}{e:TypeId}(h:ML w g e n)(hk:w'.heap[g]? = w.heap[g]?):ML w' g e n:=by
 obtain⟨d,h,hn⟩:=h;exact⟨d,hk.trans h,hn⟩
theorem BT {w:World}{base g n c s:Nat}{e:TypeId}{xs:List Value}(h:w.ownsRow base e s (.slice (some ⟨g,0,none⟩) n c) n xs):ML w g e (n*s):=by
 rcases h.2 with⟨j,_⟩|⟨G,cap,d,E,_,hb,A,_,h2,_⟩
 ·cases j
 cases E;exact⟨d,hb,by rw[h2];exact Yh _ A⟩
structure MkB (N0 N1:Nat)(w w':World):Prop where
 os:w'.os=w.os
 tape:w'.tape=w.tape
 output:w'.output=w.output
 size:w.heap.size<=w'.heap.size
 block:∀ b,b<w.heap.size->(b<N0∨N1<=b)->w'.heap[b]? = w.heap[b]?
 sl:∀ g e n,ML w g e n->ML w' g e n
theorem MkB.refl (N0 N1:Nat)(w:World):MkB N0 N1 w w:=⟨rfl,rfl,rfl,Of,fun _ _ _=>rfl,fun _ _ _ h=>h⟩
theorem MkB.trans {N0 N1:Nat}{w1 w2 w3:World}(h:MkB N0 N1 w1 w2)(h':MkB N0 N1 w2 w3):MkB N0 N1 w1 w3:=
 ⟨h'.os.trans h.os,h'.tape.trans h.tape,h'.output.trans h.output,Yk h.size h'.size,fun b hb hn=>(h'.block b (Jz hb h.size) hn).trans (h.block b hb hn),fun g e n hs=>h'.sl g e n (h.sl g e n hs)⟩
theorem MkB.bl {N0 N1:Nat}{w1 w2 w3:World}(h:MkB N0 N1 w1 w2)(hb:Up w2 w3):MkB N0 N1 w1 w3:=
 h.trans ⟨hb.os,hb.tape,hb.output,hb.size,fun b hl _=>hb.block b hl,fun g _ _ hs=>hs.keep (hb.block g hs.lt)⟩
theorem MkB.set {N0 N1:Nat}{w1 w2:World}(h:MkB N0 N1 w1 w2){b:Nat}(h0:N0<=b)(h1:b<N1)(i:Nat)(v:Value):MkB N0 N1 w1 (w2.setCell ⟨b,i,none⟩ v):=
 h.trans ⟨rfl,rfl,rfl,by simp[World.setCell],fun k _ hn=>Jq w2 ⟨b,i,none⟩ v k (by show k≠b;omega),fun g _ _ hs=>hs.set b i v⟩
def MK (E:List TypeId)(w w':World):Prop:=∀ b,b<w.heap.size->(∀ e∈E,∀ cur fz,w.heap[b]? ≠ some (.cells cur e fz))->w'.heap[b]? = w.heap[b]?
theorem MK.refl (E:List TypeId)(w:World):MK E w w:=fun _ _ _=>rfl
theorem MK.trans {E E1 E2:List TypeId}{w1 w2 w3:World}(h:MK E1 w1 w2)(h':MK E2 w2 w3)(hs:w1.heap.size<=w2.heap.size)(s1:∀ e∈E1,e∈E)(s2:∀ e∈E2,e∈E):MK E w1 w3:=fun b hl hk=>by
 have d:=h b hl (fun e he=>hk e (s1 e he))
 exact (h' b (Jz hl hs) (fun e he=>by rw[d];exact hk e (s2 e he))).trans d
theorem MK.bl {E:List TypeId}{w1 w2 w3:World}(h:MK E w1 w2)(hs:w1.heap.size<=w2.heap.size)(hb:Up w2 w3):MK E w1 w3:=fun b hl hk=>(hb.block b (Jz hl hs)).trans (h b hl hk)
theorem MK.set {E:List TypeId}{e:TypeId}{w1 w2:World}(h:MK E w1 w2)(he:e∈E){b n:Nat}(hs:ML w1 b e n)(i:Nat)(v:Value):MK E w1 (w2.setCell ⟨b,i,none⟩ v):=fun k hl hk=>(Jq w2 ⟨b,i,none⟩ v k (fun e'=>by
 obtain⟨d,h,_⟩:=hs
 exact hk e he d (0,0) (by rw[e'];exact h))).trans (h k hl hk)
theorem MK.sl {E:List TypeId}{e':TypeId}{w w':World}(h:MK E w w'){g n:Nat}(hs:ML w g e' n)(hne:e'∉E):w'.heap[g]? = w.heap[g]? := h g hs.lt (fun e he cur fz hh=>by
 obtain⟨c,d,_⟩:=hs
 rw[d] at hh
 cases hh
 exact hne he)
def BH (w:World)(N0 N1:Nat)(e:TypeId)(s:Nat)(v:Value)(n:Nat):Prop:=
 ∃ p c,v=.slice p n c/\n<=c/\c<=maxLen/\(n=0∨∃ g,p=some ⟨g,0,none⟩/\N0<=g/\g<N1/\ML w g e (n*s))
theorem MR {w:World}{base N0 N1 n s:Nat}{e:TypeId}{v:Value}{xs:List Value}(h:w.ownsRow base e s v n xs)(h0:N0<=base)(h1:w.heap.size<=N1):BH w N0 N1 e s v n:=by
 obtain⟨p,c,rfl,hc,j,d⟩:=Ck h;refine⟨p,c,rfl,hc,j,?_⟩
 rcases d with d|⟨g,rfl,d⟩
 ·exact .inl d
 exact .inr ⟨g,rfl,Yk h0 (Ot h g rfl),Jz d h1,BT h⟩
theorem BH.mk {w w':World}{N0 N1 n s:Nat}{e:TypeId}{v:Value}(h:BH w N0 N1 e s v n)(hs:∀ g e n,ML w g e n->ML w' g e n):BH w' N0 N1 e s v n:=by
 obtain⟨p,c,rfl,hc,E,d⟩:=h;refine⟨p,c,rfl,hc,E,?_⟩
 rcases d with d|⟨g,rfl,j,A,d⟩
 ·exact .inl d
 exact .inr ⟨g,rfl,j,A,hs _ _ _ d⟩
theorem LA (k:Nat)(w:World)(h0:0<k)(hk:k<=1000000000000000) :
 Calls prog 77 #[.int .i64 (k:Nat)] w fun e w'=>(∃ t,e=.returned (.string t))/\Up w w':=by
 go_in
 go_wp2
 go_loopw [0,3] (fun kv ov wr=>∃ (f m:Nat) (t:ByteArray),m<=1000000000000000/\m<10 ^ f/\f+t.size<=20/\kv=.int .i64 (m:Nat)/\ov=.string t/\Up w wr) (fun kv _ _=>(intOf kv).toNat)
 case atStart=>exact⟨20,k,⟨#[]⟩,hk,by omega,by decide,rfl,rfl,Jh _ _⟩
 obtain⟨f,m,t,Z,d,O,rfl,rfl,E⟩:=hrel;have K:=Hd E;have J:=E.size;clear E
 by_cases U:0<m
 ·obtain⟨f',rfl⟩:∃ f',f=f'+1:=⟨f - 1,by cases f with|zero=>simp at d;omega|succ f=>rfl⟩;have h:m / 10<10 ^ f':=by rw[J5] at d;omega
  have A:=Hd h;obtain⟨Y,G⟩:=O1 (Oo [(48+m % 10).toUInt8]);have M:Y.size=1:=by rw[<-G];rfl
  have I:(convert 127 9 (.slice (some ⟨wr.heap.size,0,none⟩) 1 1)).run prog (wr.alloc (.cells #[.int .u8 (48+(m:Int) % 10)] 5))=.ok (.string Y) (wr.alloc (.cells #[.int .u8 (48+(m:Int) % 10)] 5)):=by
   have V:=Oi wr [.int .u8 (48+(m:Int) % 10)] 5;rw[<-G];exact run_convert_bytes_back (P:=prog) _ 127 9 5 ⟨wr.heap.size,0,none⟩ 1 [(48+m % 10).toUInt8] underlying127 underlying5 underlying9 (fun j hj=>by
    obtain rfl:j=0:=by simpa using hj
    refine (V.cell 0).trans ?_
    show some (Value.int .u8 _)=some (Value.int .u8 _)
    have:(48+m % 10).toUInt8.toNat=48+m % 10:=by rw[Nat.toUInt8,UInt8.toNat_ofNat'];omega
    rw[show ([(48+m % 10).toUInt8]:List UInt8)[0]=(48+m % 10).toUInt8 from rfl,this]
    congr 3)
  clear d h G
  go_wp2
  go_roundw
  case rel=>exact⟨f',m / 10,Y++t,by omega,A.o,by rw[ByteArray.size_append];omega,by go_num,rfl,K.o.alloc J _⟩
  simp[intOf];omega
 obtain rfl:m=0:=by omega
 clear d
 go_wp2
 go_ret
 exact⟨⟨_,rfl⟩,K.o⟩
theorem MU (N0 N1 n k:Nat)(v:Value)(w:World)(h:BH w N0 N1 9 1 v n)(hn:n<=1048576)(h0:0<k)(hk:k<=900000000000000) :
 Calls prog 54 #[v,.int .i64 (k:Nat)] w fun e w'=>e=.returned (.int .i64 (k+n:Nat))/\MkB N0 N1 w w'/\MK [9] w w':=by
 obtain⟨p,c,rfl,hc,hm,hg⟩:=h;unfold maxLen at hm;have HG:=Hd hg;clear hg
 go_in
 go_wp2
 go_loopw [1,5] (fun kv iv wr=>∃ i:Nat,i<=n/\iv=.int .i64 (i:Nat)/\kv=.int .i64 ((k+i:Nat):Int)/\MkB N0 N1 w wr/\MK [9] w wr) (fun _ iv _=>n - (intOf iv).toNat)
 case atStart=>exact⟨0,Jy _,rfl,rfl,MkB.refl _ _ _,MK.refl _ _⟩
 obtain⟨i,hi,rfl,rfl,Y,Z⟩:=hrel;have J:=Hd Y;have V:=Hd Z;clear Y Z
 by_cases U:i<n
 ·obtain⟨g,rfl,hg0,hg1,G⟩:∃ g,p=some ⟨g,0,none⟩/\N0<=g/\g<N1/\ML w g 9 n:=by
   rcases HG.o with h|⟨g,h⟩
   ·omega
   exact⟨g,by simpa using h⟩
  have E:=Hd G;obtain⟨kk,d⟩:∃ kk:Nat,k+i=kk:=⟨_,rfl⟩;have M:kk<=1000000000000000:=by omega
  have O:0<kk:=by omega
  have I:=Hd d;rw[d];clear d G
  go_wp2_with (go_at_call 77;refine (LA kk _ O M).mono ?_;rintro e w2 ⟨⟨t,rfl⟩,hb2⟩;have A:=Hd (J.o.bl hb2);have K:=Hd (V.o.bl J.o.size hb2);have j:=A.o.sl _ _ _ E.o;obtain⟨x1,k1⟩:=j.cell U;have f1:=j.fz i;clear hb2 j)
  go_roundw
  case rel=>exact⟨i+1,by omega,by go_num,by have:=I.o;rw[show k+(i+1)=kk+1 by omega];go_num,A.o.set hg0 hg1 i _,K.o.set (List.mem_cons_self ..) E.o i _⟩
  simp[intOf];omega
 obtain rfl:i=n:=by omega
 go_wp2
 go_ret
 exact⟨rfl,J.o,V.o⟩
theorem MY (N0 N1 n k:Nat)(v:Value)(w:World)(h:BH w N0 N1 3 1 v n)(hn:n<=1048576)(hk:k<=900000000000000) :
 Calls prog 35 #[v,.int .i64 (k:Nat)] w fun e w'=>e=.returned (.int .i64 (k+n:Nat))/\MkB N0 N1 w w'/\MK [3] w w'/\∀ g c,v=.slice (some ⟨g,0,none⟩) n c->∀ j,j<n->w'.cell? ⟨g,j,none⟩=some (.int .i64 ((k+j:Nat):Int)):=by
 obtain⟨p,c,rfl,hc,hm,hg⟩:=h;unfold maxLen at hm;have HG:=Hd hg;clear hg
 go_in
 go_wp2
 go_loopw [1,5] (fun kv iv wr=>∃ i:Nat,i<=n/\iv=.int .i64 (i:Nat)/\kv=.int .i64 ((k+i:Nat):Int)/\MkB N0 N1 w wr/\MK [3] w wr/\∀ g,p=some ⟨g,0,none⟩->∀ j,j<i->wr.cell? ⟨g,j,none⟩=some (.int .i64 ((k+j:Nat):Int))) (fun _ iv _=>n - (intOf iv).toNat)
 case atStart=>exact⟨0,Jy _,rfl,rfl,MkB.refl _ _ _,MK.refl _ _,fun _ _ j hj=>absurd hj (J2 _)⟩
 obtain⟨i,hi,rfl,rfl,Y,Z,V⟩:=hrel;have K:=Hd Y;have U:=Hd Z;have O:=Hd V;clear Y Z V
 by_cases M:i<n
 ·obtain⟨g,rfl,hg0,hg1,I⟩:∃ g,p=some ⟨g,0,none⟩/\N0<=g/\g<N1/\ML w g 3 n:=by
   rcases HG.o with h|⟨g,h⟩
   ·omega
   exact⟨g,by simpa using h⟩
  have G:=Hd I;obtain⟨kk,d⟩:∃ kk:Nat,k+i=kk:=⟨_,rfl⟩;have b3:kk<=1000000000000000:=by omega
  have E:=Hd d;rw[d];have A:=K.o.sl _ _ _ G.o;obtain⟨x1,k1⟩:=A.cell M;have f1:=A.fz i;have J:=Hd k1;clear d I A
  go_wp2
  go_roundw
  case rel=>
   refine⟨i+1,by omega,by go_num,by have:=E.o;rw[show k+(i+1)=kk+1 by omega];go_num,K.o.set hg0 hg1 i _,U.o.set (List.mem_cons_self ..) G.o i _,fun g' e j hj=>?_⟩
   cases e
   by_cases e:j=i
   ·subst e;rw[World.cell?_setCell_same _ _ _ J.o,E.o]
   rw[World.cell?_setCell_other _ _ _ _ (by intro h;apply e;injection h with _ h2;exact h2.symm)];exact O.o g rfl j (by omega)
  simp[intOf];omega
 obtain rfl:i=n:=by omega
 go_wp2
 go_ret
 refine⟨rfl,K.o,U.o,fun g c e j hj=>?_⟩
 cases e
 exact O.o g rfl j hj
theorem MH (n k:Nat)(p:Option Addr)(c:Nat)(w:World)(hc:n<=c)(_hm:c<=maxLen)(hn:n<=1048576)(hk:k<=900000000000000)
 (h:n=0∨∃ g,p=some ⟨g,0,none⟩/\∀ j,j<n->w.cell? ⟨g,j,none⟩=some (.int .i64 ((k+j:Nat):Int))) :
 Calls prog 36 #[.slice p n c,.int .i64 (k:Nat)] w fun e w'=>e=.returned (.int .i64 (k+n:Nat))/\Up w w':=by
 have I:=Hd h;clear h
 go_in
 go_wp2
 go_loopw [1,5] (fun kv iv wr=>∃ i:Nat,i<=n/\iv=.int .i64 (i:Nat)/\kv=.int .i64 ((k+i:Nat):Int)/\wr=w) (fun _ iv _=>n - (intOf iv).toNat)
 case atStart=>exact⟨0,Jy _,rfl,rfl,rfl⟩
 obtain⟨i,M,rfl,rfl,rfl⟩:=hrel
 by_cases E:i<n
 ·obtain⟨g,rfl,G⟩:∃ g,p=some ⟨g,0,none⟩/\∀ j,j<n->wr.cell? ⟨g,j,none⟩=some (.int .i64 ((k+j:Nat):Int)):=by
   rcases I.o with h|h
   ·omega
   exact h
  obtain⟨kk,d⟩:∃ kk:Nat,k+i=kk:=⟨_,rfl⟩;have J:kk<=1000000000000000:=by omega
  have A:=Hd d;have K:=G i E;rw[d] at K ⊢;clear d G
  go_wp2
  go_roundw
  case rel=>exact⟨i+1,by omega,by go_num,by have:=A.o;rw[show k+(i+1)=kk+1 by omega];go_num,trivial⟩
  simp[intOf];omega
 obtain rfl:i=n:=by omega
 go_wp2
 go_ret
 exact⟨rfl,Jh _ _⟩
def MN (w:World)(N0 N1:Nat)(v:Value)(F:List Fn):Prop:=
 BH w N0 N1 47 3 v F.length/\∀ g c,v=.slice (some ⟨g,0,none⟩) F.length c->∀ i (h:i<F.length),∃ va,w.cell? ⟨g,i*3+1,none⟩=some va/\BH w N0 N1 9 1 va F[i].args.length
def LJ (w:World)(N0 N1:Nat)(v:Value)(T:List Tm):Prop:=
 BH w N0 N1 57 6 v T.length/\∀ g c,v=.slice (some ⟨g,0,none⟩) T.length c->∀ i (h:i<T.length),∃ va,w.cell? ⟨g,i*6+5,none⟩=some va/\BH w N0 N1 3 1 va T[i].kids.length
theorem MN.mk {w w':World}{N0 N1:Nat}{v:Value}{F:List Fn}{E:List TypeId}(h:MN w N0 N1 v F)(hm:MkB N0 N1 w w')(ht:MK E w w')(hne:47∉E):MN w' N0 N1 v F:=by
 refine⟨h.1.mk hm.sl,fun g c e i hi=>?_⟩;obtain⟨J,j,h2⟩:=h.2 g c e i hi;refine⟨J,?_,h2.mk hm.sl⟩;obtain⟨p,K,G,_,_,A⟩:=h.1;rw[e] at G;cases G
 rcases A with A|⟨M,d,_,_,I⟩
 ·omega
 cases d
 have:=ht.sl I hne;unfold World.cell? at j ⊢;simp only[this];exact j
theorem LJ.mk {w w':World}{N0 N1:Nat}{v:Value}{T:List Tm}{E:List TypeId}(h:LJ w N0 N1 v T)(hm:MkB N0 N1 w w')(ht:MK E w w')(hne:57∉E):LJ w' N0 N1 v T:=by
 refine⟨h.1.mk hm.sl,fun g c e i hi=>?_⟩;obtain⟨J,j,h2⟩:=h.2 g c e i hi;refine⟨J,?_,h2.mk hm.sl⟩;obtain⟨p,K,G,_,_,A⟩:=h.1;rw[e] at G;cases G
 rcases A with A|⟨M,d,_,_,I⟩
 ·omega
 cases d
 have:=ht.sl I hne;unfold World.cell? at j ⊢;simp only[this];exact j
theorem BY {w w':World}{g i:Nat}(h:w'.heap[g]? = w.heap[g]?):w'.cell? ⟨g,i,none⟩=w.cell? ⟨g,i,none⟩:=by unfold World.cell?;simp only[h]
theorem BN (N0 N1 k:Nat)(v:Value)(F:List Fn)(w:World)(h:MN w N0 N1 v F)(hn:F.length<=1048576)(ha:∀ f∈F,f.args.length<=1048576)(h0:0<k)(hk:k<=100000000) :
 Calls prog 55 #[v,.int .i64 (k:Nat)] w fun e w'=>(∃ k':Nat,0<k'/\k'<=k+F.length*1048578/\e=.returned (.int .i64 (k':Nat)))/\MkB N0 N1 w w'/\MK [47,9] w w':=by
 obtain⟨⟨p,c,rfl,hc,hm,hg⟩,hA⟩:=h;unfold maxLen at hm;have HG:=Hd hg;have HA:=Hd hA;have d3:=Hd ha;clear hg hA ha
 go_in
 go_wp2
 go_loopw [1,5] (fun kv iv wr=>∃ i k':Nat,i<=F.length/\iv=.int .i64 (i:Nat)/\0<k'/\k'<=k+i*1048578/\kv=.int .i64 (k':Nat)/\MkB N0 N1 w wr/\MK [47,9] w wr/\∀ g,p=some ⟨g,0,none⟩->∀ j,j<F.length->wr.cell? ⟨g,j*3+1,none⟩=w.cell? ⟨g,j*3+1,none⟩) (fun _ iv _=>F.length - (intOf iv).toNat)
 case atStart=>exact⟨0,k,Jy _,rfl,h0,by omega,rfl,MkB.refl _ _ _,MK.refl _ _,fun _ _ _ _=>rfl⟩
 obtain⟨i,k',hi,rfl,c6,e3,rfl,hM,hT,hC⟩:=hrel;have HM:=Hd hM;have HT:=Hd hT;have HC:=Hd hC;clear hM hT hC
 by_cases M:i<F.length
 ·obtain⟨g,rfl,hg0,hg1,d0⟩:∃ g,p=some ⟨g,0,none⟩/\N0<=g/\g<N1/\ML w g 47 (F.length*3):=by
   rcases HG.o with h|h
   ·omega
   exact h
  have d:=Hd d0;obtain⟨va,d1,O⟩:=HA.o g c rfl i M;have b7:=d3.o _ (Jw M);obtain⟨m,c8⟩:=O1 (F[i].args.length);rw[c8] at O b7;have e0:=Hd d1;have d7:=Hd O;obtain⟨pa,ca,rfl,-,-,-⟩:=O;clear d0 d1 c8;obtain⟨k2,K⟩:=O1 (k'+1+m);have b3:Hid (∀ W,BH W N0 N1 9 1 (.slice pa m ca) m->Calls prog 54 #[.slice pa m ca,.int .i64 ((k':Int)+1)] W fun e w'=>e=.returned (.int .i64 (k2:Nat))/\MkB N0 N1 W w'/\MK [9] W w'):=fun W hW=>by
   rw[<-K];exact MU N0 N1 m (k'+1) _ W hW b7 (by omega) (by omega)
  have d6:=Hd K;have e4:0<k2:=by omega
  have e5:k2<=1000000000000000:=by omega
  clear K;have b8:=(HM.o.sl _ _ _ d.o).lt;have Y:Hid (wr.cell? ⟨g,i*3+1,none⟩=some (.slice pa m ca)):=(HC.o g rfl i M).trans e0.o
  go_wp2_with fail
  refine (LA k' _ c6 (by omega)).mono ?_;rintro e w2 ⟨⟨t,rfl⟩,hb2⟩;have G:=Hd (HM.o.bl hb2);have b4:=Hd (HT.o.bl HM.o.size hb2);have U:=G.o.sl _ _ _ d.o;obtain⟨x1,k1⟩:=U.cell (i:=i*3) (by omega);have f1:=U.fz (i*3);have a1:=(hb2.cell (p:=⟨g,i*3+1,none⟩) b8).trans Y.o;have Z:Hid (∀ j,j<F.length->w2.cell? ⟨g,j*3+1,none⟩=w.cell? ⟨g,j*3+1,none⟩):=fun j hj=>(hb2.cell (p:=⟨g,j*3+1,none⟩) b8).trans (HC.o g rfl j hj);clear hb2 U
  go_wp2_with fail
  have A:=Hd (G.o.set hg0 hg1 (i*3) (.string t));have b5:=Hd (b4.o.set (List.mem_cons_self ..) d.o (i*3) (.string t));have a7:Hid (∀ j,j<F.length->(w2.setCell ⟨g,i*3,none⟩ (.string t)).cell? ⟨g,j*3+1,none⟩=w.cell? ⟨g,j*3+1,none⟩):=fun j hj=>(World.cell?_setCell_other _ _ _ _ (by intro h;injection h with _ h2;omega)).trans (Z.o j hj);refine (b3.o _ (d7.o.mk A.o.sl)).mono ?_;rintro e w4 ⟨rfl,b6,J⟩;have I:=Hd (A.o.trans b6);have d8:Hid (MK [47,9] w w4):=b5.o.trans J A.o.size (fun _ h=>h) (fun e h=>List.mem_cons_of_mem _ h);have d4:Hid (∀ j,j<F.length->w4.cell? ⟨g,j*3+1,none⟩=w.cell? ⟨g,j*3+1,none⟩):=fun j hj=>(BY (J.sl (A.o.sl _ _ _ d.o) (by decide))).trans (a7.o j hj);have b9:=(I.o.sl _ _ _ d.o).lt;clear b6 J G b4 A b5 Z a7 k1 f1 a1 b3
  go_wp2_with fail
  refine (LA k2 _ e4 e5).mono ?_;rintro e w5 ⟨⟨t2,rfl⟩,E⟩;have a8:=Hd (I.o.bl E);have d9:=Hd (d8.o.bl I.o.size E);have V:=a8.o.sl _ _ _ d.o;obtain⟨x5,k5⟩:=V.cell (i:=i*3+2) (by omega);have f5:=V.fz (i*3+2);have d5:Hid (∀ j,j<F.length->w5.cell? ⟨g,j*3+1,none⟩=w.cell? ⟨g,j*3+1,none⟩):=fun j hj=>(E.cell (p:=⟨g,j*3+1,none⟩) b9).trans (d4.o j hj);clear E V
  go_wp2
  go_roundw
  case rel=>
   refine⟨i+1,k2+1,by omega,by go_num,by omega,by have:=d6.o;omega,by go_num,a8.o.set hg0 hg1 (i*3+2) _,d9.o.set (List.mem_cons_self ..) d.o (i*3+2) _,fun g' e j hj=>?_⟩
   cases e
   exact (World.cell?_setCell_other _ _ _ _ (by intro h;injection h with _ h2;omega)).trans (d5.o j hj)
  simp[intOf];omega
 obtain rfl:i=F.length:=by omega
 go_wp2
 go_ret
 exact⟨⟨k',c6,e3,rfl⟩,HM.o,HT.o⟩
theorem MB {g a b:Nat}(h:a≠b):(⟨g,a,none⟩:Addr)≠⟨g,b,none⟩:=by intro e;injection e with _ e2;exact h e2
theorem MJ (N0 N1 k:Nat)(v:Value)(F:List Tm)(w:World)(h:LJ w N0 N1 v F)(hn:F.length<=1048576)(ha:∀ f∈F,f.kids.length<=1048576)(h0:0<k)(hk:k<=10000000000000) :
 Calls prog 56 #[v,.int .i64 (k:Nat)] w fun e w'=>(∃ k':Nat,0<k'/\k'<=k+F.length*1048581/\e=.returned (.int .i64 (k':Nat)))/\MkB N0 N1 w w'/\MK [57,3] w w':=by
 obtain⟨⟨p,c,rfl,hc,hm,hg⟩,hA⟩:=h;unfold maxLen at hm;have HG:=Hd hg;have HA:=Hd hA;have e1:=Hd ha;clear hg hA ha
 go_in
 go_wp2
 go_loopw [1,5] (fun kv iv wr=>∃ i k':Nat,i<=F.length/\iv=.int .i64 (i:Nat)/\0<k'/\k'<=k+i*1048581/\kv=.int .i64 (k':Nat)/\MkB N0 N1 w wr/\MK [57,3] w wr/\∀ g,p=some ⟨g,0,none⟩->∀ j,j<F.length->wr.cell? ⟨g,j*6+5,none⟩=w.cell? ⟨g,j*6+5,none⟩) (fun _ iv _=>F.length - (intOf iv).toNat)
 case atStart=>exact⟨0,k,Jy _,rfl,h0,by omega,rfl,MkB.refl _ _ _,MK.refl _ _,fun _ _ _ _=>rfl⟩
 obtain⟨i,k',hi,rfl,e8,e9,rfl,hM,hT,hC⟩:=hrel
 by_cases M:i<F.length
 ·obtain⟨g,rfl,hg0,hg1,G⟩:∃ g,p=some ⟨g,0,none⟩/\N0<=g/\g<N1/\ML w g 57 (F.length*6):=by
   rcases HG.o with h|h
   ·omega
   exact h
  have d:=Hd G;obtain⟨va,b3,Z⟩:=HA.o g c rfl i M;have d5:=e1.o _ (Jw M);obtain⟨m,d8⟩:=O1 (F[i].kids.length);rw[d8] at Z d5;have e5:=Hd Z;have e7:=Hd b3;obtain⟨pa,ca,rfl,-,-,-⟩:=Z;have a7:=hM.sl _ _ _ G;have a0:=(hC g rfl i M).trans b3;obtain⟨x0,c0⟩:=a7.cell (i:=i*6) (by omega);have f0:=a7.fz (i*6);have g6:k'<=100000000000000:=by omega
  have b7:Hid (∀ W,BH W N0 N1 3 1 (.slice pa m ca) m->Calls prog 35 #[.slice pa m ca,.int .i64 ((k':Int)+5)] W fun e w'=>e=.returned (.int .i64 (k'+5+m:Nat))/\MkB N0 N1 W w'/\MK [3] W w'):=fun W hW=>(MY N0 N1 m (k'+5) _ W hW d5 (by omega)).mono fun e w' h=>⟨h.1,h.2.1,h.2.2.1⟩;have b8:Hid (∀ W,Calls prog 77 #[.int .i64 ((k':Int)+1)] W fun e w'=>(∃ t,e=.returned (.string t))/\Up W w'):=fun W=>LA (k'+1) W (by omega) (by omega);have b9:Hid (∀ W,Calls prog 77 #[.int .i64 ((k':Int)+2)] W fun e w'=>(∃ t,e=.returned (.string t))/\Up W w'):=fun W=>LA (k'+2) W (by omega) (by omega)
  have I:=Hd (hM.set hg0 hg1 (i*6) (.int .i64 (k':Nat)));have c6:=Hd (hT.set (List.mem_cons_self ..) G (i*6) (.int .i64 (k':Nat)));have b4:Hid (∀ j,j<F.length->(wr.setCell ⟨g,i*6,none⟩ (.int .i64 (k':Nat))).cell? ⟨g,j*6+5,none⟩=w.cell? ⟨g,j*6+5,none⟩):=fun j hj=>(World.cell?_setCell_other _ _ _ _ (MB (by omega))).trans (hC g rfl j hj);have d6:=(I.o.sl _ _ _ G).lt;have q1:((k':Int)+1)+1=(k':Int)+2:=by omega
  have q2:((k':Int)+2)+1=(k':Int)+3:=by omega
  have q3:((k':Int)+3)+1=(k':Int)+4:=by omega
  have q4:((k':Int)+4)+1=(k':Int)+5:=by omega
  clear hM hT hC G a7 a0 d8 b3
  go_wp2_with fail
  refine (b8.o _).mono ?_;rintro e w2 ⟨⟨t,rfl⟩,hb2⟩;have O:=I.o.bl hb2;have d3:=c6.o.bl I.o.size hb2;have a8:=O.sl _ _ _ d.o;obtain⟨x1,c1⟩:=a8.cell (i:=i*6+1) (by omega);have f1:=a8.fz (i*6+1);have J:=Hd (O.set hg0 hg1 (i*6+1) (.string t));have c8:=Hd (d3.set (List.mem_cons_self ..) d.o (i*6+1) (.string t));have b5:Hid (∀ j,j<F.length->(w2.setCell ⟨g,i*6+1,none⟩ (.string t)).cell? ⟨g,j*6+5,none⟩=w.cell? ⟨g,j*6+5,none⟩):=fun j hj=>(World.cell?_setCell_other _ _ _ _ (MB (by omega))).trans ((hb2.cell (p:=⟨g,j*6+5,none⟩) d6).trans (b4.o j hj));have d7:=(J.o.sl _ _ _ d.o).lt;clear hb2 O d3 a8 I c6 b4 d6 c0 f0
  go_wp2_with fail
  refine (b9.o _).mono ?_;rintro e w3 ⟨⟨t2,rfl⟩,K⟩;have U:=J.o.bl K;have d4:=c8.o.bl J.o.size K;have A:=U.sl _ _ _ d.o;obtain⟨x2,c2⟩:=A.cell (i:=i*6+2) (by omega);have f2:=A.fz (i*6+2);obtain⟨x3,c3⟩:=A.cell (i:=i*6+3) (by omega);have f3:=A.fz (i*6+3);obtain⟨x4,c4⟩:=A.cell (i:=i*6+4) (by omega);have f4:=A.fz (i*6+4);have Y:∀ j,j<F.length->w3.cell? ⟨g,j*6+5,none⟩=w.cell? ⟨g,j*6+5,none⟩:=fun j hj=>(K.cell (p:=⟨g,j*6+5,none⟩) d7).trans (b5.o j hj);have c5:=(Y i M).trans e7.o;have E:=Hd (((U.set hg0 hg1 (i*6+2) (.string t2)).set hg0 hg1 (i*6+3) (.int .i64 ((k':Int)+3))).set hg0 hg1 (i*6+4) (.int .i64 ((k':Int)+4)));have d0:=Hd (((d4.set (List.mem_cons_self ..) d.o (i*6+2) (.string t2)).set (List.mem_cons_self ..) d.o (i*6+3) (.int .i64 ((k':Int)+3))).set (List.mem_cons_self ..) d.o (i*6+4) (.int .i64 ((k':Int)+4)));have b6:Hid (∀ j,j<F.length->(((w3.setCell ⟨g,i*6+2,none⟩ (.string t2)).setCell ⟨g,i*6+3,none⟩ (.int .i64 ((k':Int)+3))).setCell ⟨g,i*6+4,none⟩ (.int .i64 ((k':Int)+4))).cell? ⟨g,j*6+5,none⟩=w.cell? ⟨g,j*6+5,none⟩):=fun j hj=>(World.cell?_setCell_other _ _ _ _ (MB (by omega))).trans ((World.cell?_setCell_other _ _ _ _ (MB (by omega))).trans ((World.cell?_setCell_other _ _ _ _ (MB (by omega))).trans (Y j hj)));clear K U d4 A Y J c8 b5 d7 c1 f1
  go_wp2_with fail
  refine (b7.o _ (e5.o.mk E.o.sl)).mono ?_;rintro e w4 ⟨rfl,d2,V⟩;have e4:=Hd (E.o.trans d2);have e6:Hid (MK [57,3] w w4):=d0.o.trans V E.o.size (fun _ h=>h) (fun e h=>List.mem_cons_of_mem _ h);have e3:Hid (∀ j,j<F.length->w4.cell? ⟨g,j*6+5,none⟩=w.cell? ⟨g,j*6+5,none⟩):=fun j hj=>(BY (V.sl (E.o.sl _ _ _ d.o) (by decide))).trans (b6.o j hj);clear d2 V E d0 b6 c2 c3 c4 c5 f2 f3 f4 b7 b8 b9
  go_wp2
  go_roundw
  case rel=>
   refine⟨i+1,k'+5+m,by omega,by go_num,by omega,by omega,by go_num,e4.o,e6.o,fun g' e j hj=>?_⟩
   cases e
   exact e3.o j hj
  simp[intOf];omega
 obtain rfl:i=F.length:=by omega
 have HM:=Hd hM;have HT:=Hd hT;clear hM hT hC
 go_wp2
 go_ret
 exact⟨⟨k',e8,e9,rfl⟩,HM.o,HT.o⟩
structure BankW (w:World)(N0 N1:Nat)(vs vf vt:Value)(S:List (List UInt8))(F:List Fn)(T:List Tm):Prop where
 s:BH w N0 N1 9 1 vs S.length
 f:MN w N0 N1 vf F
 t:LJ w N0 N1 vt T
theorem MkB.box {N0 N1:Nat}{w w':World}(h:MkB N0 N1 w w'){g:Nat}{l:List Value}(hx:Bx w g l)(hg:N1<=g):Bx w' g l:=by
 have:=hx.lt;obtain⟨d,hx⟩:=hx;exact⟨d,(h.block g this (.inr hg)).trans hx⟩
theorem BE (N0 N1:Nat){vs vf vt:Value}{S:List (List UInt8)}{F:List Fn}{T:List Tm}(w:World)(h:BankW w N0 N1 vs vf vt S F T)(hs:SmallB S F T)(hN:N1<=w.heap.size) :
 Calls prog 16 #[.agg #[vs,vf,vt],.int .i64 1] w fun e w'=>(∃ k:Nat,0<k/\k<=10000000000000/\e=.returned (.int .i64 (k:Nat)))/\MkB N0 N1 w w':=by
 obtain⟨hS,hF,hT⟩:=h;have A:Hid (MkB N0 N1 w (w.alloc (.cells #[vs,vf,vt] 32))):=(MkB.refl _ _ w).bl (Oy _ _);have K:Hid (MK [] w (w.alloc (.cells #[vs,vf,vt] 32))):=(MK.refl _ w).bl Of (Oy _ _);have j:=Oi w [vs,vf,vt] 32;have b6:=Hd j;have HS:=Hd (hS.mk A.o.sl);have HF:=Hd (hF.mk A.o K.o (by decide));have HT:=Hd (hT.mk A.o K.o (by decide));have d0:=hs.s.1;have d1:=hs.f.1;have d2:=hs.t.1;have V:Hid (∀ f∈F,f.args.length<=1048576):=fun f hf=>(hs.f.2 f hf).2.1.1;have Y:Hid (∀ t∈T,t.kids.length<=1048576):=fun t ht=>(hs.t.2 t ht).2.2;obtain⟨a1,c1,rfl,-,-,-⟩:=hS;obtain⟨⟨a2,c2,rfl,-,-,-⟩,-⟩:=hF;obtain⟨⟨a3,c3,rfl,-,-,-⟩,-⟩:=hT;obtain⟨b0,b1,b2⟩:=(show _/\_/\_ from ⟨j.cell 0,j.cell 1,j.cell 2⟩);clear j hs
 go_in
 go_wp2_with fail
 refine (MU N0 N1 S.length 1 _ _ HS.o d0 (by decide) (by decide)).mono ?_;rintro e w2 ⟨rfl,d,J⟩;have a7:=Hd (A.o.trans d);have I:=Hd (d.box b6.o hN);have Z:=Hd (HF.o.mk d J (by decide));have b4:=Hd (HT.o.mk d J (by decide));obtain⟨k2,U⟩:=O1 (1+S.length);have G:0<k2/\k2<=100000000:=by omega
 rw[U];have b1:=I.o.cell 1;have b2:=I.o.cell 2;clear d J U
 go_wp2_with fail
 refine (BN N0 N1 k2 _ F _ Z.o d1 V.o G.1 G.2).mono ?_;rintro e w3 ⟨⟨k3,b8,d9,rfl⟩,E,O⟩;have a8:=Hd (a7.o.trans E);have b7:=Hd (E.box I.o hN);have b5:=Hd (b4.o.mk E O (by decide));have c8:k3<=10000000000000:=by omega
 have b2:=b7.o.cell 2;clear E O
 go_wp2_with fail
 refine (MJ N0 N1 k3 _ T _ b5.o d2 Y.o b8 c8).mono ?_;rintro e w4 ⟨⟨k4,b9,e0,rfl⟩,M,c6⟩;have b3:=Hd (a8.o.trans M);clear M c6
 go_wp2
 go_ret
 exact⟨⟨k4,b9,by omega,rfl⟩,b3.o⟩
theorem BH.wide {w:World}{N0 M0 N1 n s:Nat}{e:TypeId}{v:Value}(h:BH w N0 N1 e s v n)(h0:M0<=N0):BH w M0 N1 e s v n:=by
 obtain⟨p,c,rfl,hc,A,d⟩:=h;refine⟨p,c,rfl,hc,A,?_⟩
 rcases d with d|⟨g,rfl,j,h2,d⟩
 ·exact .inl d
 exact .inr ⟨g,rfl,Yk h0 j,h2,d⟩
theorem MN.wide {w:World}{N0 M0 N1:Nat}{v:Value}{F:List Fn}(h:MN w N0 N1 v F)(h0:M0<=N0):MN w M0 N1 v F:=
 ⟨h.1.wide h0,fun g c e i hi=>by obtain⟨j,d,h2⟩:=h.2 g c e i hi;exact⟨j,d,h2.wide h0⟩⟩
theorem LJ.wide {w:World}{N0 M0 N1:Nat}{v:Value}{T:List Tm}(h:LJ w N0 N1 v T)(h0:M0<=N0):LJ w M0 N1 v T:=
 ⟨h.1.wide h0,fun g c e i hi=>by obtain⟨j,d,h2⟩:=h.2 g c e i hi;exact⟨j,d,h2.wide h0⟩⟩
theorem BL (v:Value)(F:List Fn)(w:World)(h:I6 w v F)(hs:F.length<=1048576/\∀ f∈F,Ch f) :
 Calls prog 44 #[v] w fun e w'=>∃ v',e=.returned v'/\(∃ p c,v'=.slice p F.length c)/\IV w.heap.size w' (fun W=>Eh W v' F/\MN W w.heap.size W.heap.size v' F)/\Up w w':=by
 obtain⟨a,c,rfl,hc,d8,-,hA⟩:=h;unfold maxLen at d8;obtain⟨i0,b5,e3,e4,e5⟩:=S4;have g4:=hs.1;have HA:=Hd hA;have d3:=Hd hs.2;clear hA hs
 go_in
 go_wp2_with (at_make;refine wpList_make_full _ rfl _ _ 29 rfl w.heap.size 47 i0 _ 3 underlying29 b5 e3 e4 .i64 .i64 _ _ F.length rfl rfl (by simp) (by simp) (by rw[e5];omega) (by unfold maxLen;omega) Of ?_)
 intro w1 K b4;have c6:Hid (Up w w1):=(Jh _ _).grown b4 Of (fun k e=>by cases e);have d1:=Hd K;clear K b4
 go_wp2
 go_loopw [4] (fun iv wr=>∃ (i:Nat) (xs:List Value),i<=F.length/\iv=.int .i64 i/\My wr (w.heap.size+1) xs F i/\wr.ownsRow w.heap.size 47 3 (.slice (some ⟨w.heap.size,0,none⟩) F.length F.length) F.length xs/\Up w wr) (fun iv _=>F.length - (intOf iv).toNat)
 case atStart=>exact⟨0,_,Jy _,rfl,fun j _ h=>absurd h (J2 _),d1.o,c6.o⟩
 obtain⟨i,xs,hi,rfl,G,E,V⟩:=hrel;have HB:=Hd V;have M:=Hd G;have d5:Hid (xs.length=F.length*3):=E.1;have HO:=Hd E;have O:Hid (w.heap.size<wr.heap.size):=(E.lt _ rfl).2
 by_cases J:i<F.length
 ·obtain⟨b,off,rfl,hb,hA⟩:∃ b off,a=some ⟨b,off,none⟩/\b<w.heap.size/\∀ i (h:i<F.length),w.cell? ⟨b,off+i*3,none⟩=some (.string (Oo F[i].name))/\(∃ va,w.cell? ⟨b,off+i*3+1,none⟩=some va/\Nt w va F[i].args)/\w.cell? ⟨b,off+i*3+2,none⟩=some (.string (Oo F[i].sort)):=by
   rcases HA.o with h|h
   ·rw[h] at J;exact absurd J (J2 _)
   exact h
  obtain⟨k0,⟨va,k1,A⟩,k2⟩:=hA i J;rw[<-V.cell (p:=⟨b,off+i*3,none⟩) hb] at k0;rw[<-V.cell (p:=⟨b,off+i*3+1,none⟩) hb] at k1;rw[<-V.cell (p:=⟨b,off+i*3+2,none⟩) hb] at k2;have U:=Hd (A.bl V);have a8:=Hd (d3.o _ (Jw J)).2.1;have Z:Hid (∀ wr' va,(∀ k,w.heap.size+1<=k->k<wr.heap.size->wr'.heap[k]? = wr.heap[k]?)->wr'.ownsRow (w.heap.size+1) 9 1 va F[i].args.length (U3 F[i].args)->My wr' (w.heap.size+1) (((xs.set (i*3) (.string (Oo F[i].name))).set (i*3+1) va).set (i*3+2) (.string (Oo F[i].sort))) F (i+1)):=fun wr' va hk hv=>My.next d5.o M.o J hk hv;obtain⟨f,hf⟩:=O1 (F[i]);rw[hf] at k0 k2 U a8 Z;obtain⟨pa,ca,rfl,-,-,-,-⟩:=A;rw[hf] at k1;rw[hf] at U;clear hf G E V hA
  go_wp2_with (go_at_call 21;refine (GD f _ _ U.o a8.o).mono ?_;rintro e w2 ⟨g2,c2,rfl,b6,hb2⟩;have d:=Qf HO.o hb2;have c8:=HB.up hb2;obtain⟨x0,e0⟩:=H9 d (i*3) (by omega);obtain⟨x1,e1⟩:=H9 d (i*3+1) (by omega);obtain⟨x2,e2⟩:=H9 d (i*3+2) (by omega);have g0:=d.frozenAt (i*3);have g1:=d.frozenAt (i*3+1);have f9:=d.frozenAt (i*3+2);have d2:=Hd d;have a7:=Hd b6;have d0:=Hd hb2;clear hb2 d b6)
  have b7:=(((d2.o.stored (i*3) (.string (Oo f.name))).1.stored (i*3+1) (.slice (some ⟨g2,0,none⟩) f.args.length c2)).1.stored (i*3+2) (.string (Oo f.sort))).1;have d4:=Hd b7;have hh:∀ k,k≠w.heap.size->(((w2.setCell ⟨w.heap.size,i*3,none⟩ (.string (Oo f.name))).setCell ⟨w.heap.size,i*3+1,none⟩ (.slice (some ⟨g2,0,none⟩) f.args.length c2)).setCell ⟨w.heap.size,i*3+2,none⟩ (.string (Oo f.sort))).heap[k]? = w2.heap[k]? := fun k hk=>by rw[Jq _ ⟨w.heap.size,i*3+2,none⟩ _ _ hk,Jq _ ⟨w.heap.size,i*3+1,none⟩ _ _ hk,Jq _ ⟨w.heap.size,i*3,none⟩ _ _ hk]
  have Y:=Hd hh;clear b7 hh
  go_roundw
  case rel=>
   refine⟨i+1,_,by omega,by go_num,Z.o _ (.slice (some ⟨g2,0,none⟩) f.args.length c2) (fun k hk hk2=>(Y.o k (by omega)).trans (d0.o.block k hk2)) ?_,d4.o,((c8.o.sc).sc).sc⟩;exact E7 (Ox a7.o (fun g hg=>Y.o g (fun e=>by have:=Ot a7.o g hg;have:=O.o;omega))) O.o
  simp[intOf];omega
 have d9:i=F.length:=by omega
 subst d9;clear E V G
 go_wp2
 go_ret
 refine⟨_,rfl,⟨_,_,rfl⟩,fun W' hsz hkk=>?_,HB.o⟩;have I:W'.ownsRow _ _ _ _ _ _:=Ox HO.o (fun g hg=>hkk g (Ot HO.o g hg) (HO.o.lt g hg).2);refine⟨⟨_,_,rfl,Of,by unfold maxLen;omega,.inr ⟨w.heap.size,rfl,Jz O.o hsz,fun j hj=>?_⟩⟩,MR I Of Of,fun g c e j hj=>?_⟩
 ·obtain⟨h0,⟨va,h1,A⟩,h2⟩:=M.o j hj hj;refine⟨?_,⟨va,?_,Aq (Ox A (fun g hg=>hkk g (Yk (Y2 _) (Ot A g hg)) (A.lt g hg).2))⟩,?_⟩
  ·rw[I.cellAt (j*3) (by omega)];exact h0
  ·rw[I.cellAt (j*3+1) (by omega)];exact h1
  rw[I.cellAt (j*3+2) (by omega)];exact h2
 obtain⟨-,⟨va,h1,A⟩,-⟩:=M.o j hj hj
 cases e
 exact⟨va,by rw[I.cellAt (j*3+1) (by omega)];exact h1,MR (Ox A (fun g hg=>hkk g (Yk (Y2 _) (Ot A g hg)) (A.lt g hg).2)) (Y2 _) Of⟩
theorem BP (v:Value)(T:List Tm)(w:World)(h:Hb w v T)(hs:T.length<=1048576/\∀ t∈T,Cx t) :
 Calls prog 45 #[v] w fun e w'=>∃ v',e=.returned v'/\(∃ p c,v'=.slice p T.length c)/\IV w.heap.size w' (fun W=>Km W v' T/\LJ W w.heap.size W.heap.size v' T)/\Up w w':=by
 obtain⟨a,c,rfl,hc,d6,-,hA⟩:=h;unfold maxLen at d6;obtain⟨i0,b5,d8,d9,e6⟩:=Pp;have h6:=hs.1;have HA:=Hd hA;have d2:=Hd hs.2;clear hA hs
 go_in
 go_wp2_with (at_make;refine wpList_make_full _ rfl _ _ 30 rfl w.heap.size 57 i0 _ 6 underlying30 b5 d8 d9 .i64 .i64 _ _ T.length rfl rfl (by simp) (by simp) (by rw[e6];omega) (by unfold maxLen;omega) Of ?_)
 intro w1 K b4;have b9:Hid (Up w w1):=(Jh _ _).grown b4 Of (fun k e=>by cases e);have d0:=Hd K;clear K b4
 go_wp2
 go_loopw [4] (fun iv wr=>∃ (i:Nat) (xs:List Value),i<=T.length/\iv=.int .i64 i/\Mz wr (w.heap.size+1) xs T i/\wr.ownsRow w.heap.size 57 6 (.slice (some ⟨w.heap.size,0,none⟩) T.length T.length) T.length xs/\Up w wr) (fun iv _=>T.length - (intOf iv).toNat)
 case atStart=>exact⟨0,_,Jy _,rfl,fun j _ h=>absurd h (J2 _),d0.o,b9.o⟩
 obtain⟨i,xs,hi,rfl,I,G,M⟩:=hrel;have HB:=Hd M;have O:=Hd I;have d4:Hid (xs.length=T.length*6):=G.1;have HO:=Hd G;have U:Hid (w.heap.size<wr.heap.size):=(G.lt _ rfl).2
 by_cases J:i<T.length
 ·obtain⟨b,off,rfl,hb,hA⟩:∃ b off,a=some ⟨b,off,none⟩/\b<w.heap.size/\∀ i (h:i<T.length),w.cell? ⟨b,off+i*6,none⟩=some (.int .i64 T[i].op)/\w.cell? ⟨b,off+i*6+1,none⟩=some (.string (Oo T[i].sort))/\w.cell? ⟨b,off+i*6+2,none⟩=some (.string (Oo T[i].text))/\w.cell? ⟨b,off+i*6+3,none⟩=some (.int .i64 T[i].a)/\w.cell? ⟨b,off+i*6+4,none⟩=some (.int .i64 T[i].b)/\∃ va,w.cell? ⟨b,off+i*6+5,none⟩=some va/\N8 w va T[i].kids:=by
   rcases HA.o with h|h
   ·rw[h] at J;exact absurd J (J2 _)
   exact h
  obtain⟨k0,k1,k2,k3,k4,va,k5,A⟩:=hA i J;rw[<-M.cell (p:=⟨b,off+i*6,none⟩) hb] at k0;rw[<-M.cell (p:=⟨b,off+i*6+1,none⟩) hb] at k1;rw[<-M.cell (p:=⟨b,off+i*6+2,none⟩) hb] at k2;rw[<-M.cell (p:=⟨b,off+i*6+3,none⟩) hb] at k3;rw[<-M.cell (p:=⟨b,off+i*6+4,none⟩) hb] at k4;rw[<-M.cell (p:=⟨b,off+i*6+5,none⟩) hb] at k5;have a8:=Hd (A.bl M);have a7:=Hd (d2.o _ (Jw J)).2.2;have Y:Hid (∀ wr' va,(∀ k,w.heap.size+1<=k->k<wr.heap.size->wr'.heap[k]? = wr.heap[k]?)->wr'.ownsRow (w.heap.size+1) 3 1 va T[i].kids.length (G8 T[i].kids)->Mz wr' (w.heap.size+1) ((((((xs.set (i*6) (.int .i64 T[i].op)).set (i*6+1) (.string (Oo T[i].sort))).set (i*6+2) (.string (Oo T[i].text))).set (i*6+3) (.int .i64 T[i].a)).set (i*6+4) (.int .i64 T[i].b)).set (i*6+5) va) T (i+1)):=fun wr' va hk hv=>Mz.next d4.o O.o J hk hv;obtain⟨pa,ca,rfl,-,-,-⟩:=A;obtain⟨t,ht⟩:=O1 (T[i]);rw[ht] at k0 k1 k2 k3 k4 k5 a8 a7 Y;clear ht I G M hA
  go_wp2_with (go_at_call 27;refine (VC t _ _ a8.o a7.o).mono ?_;rintro e w2 ⟨g2,c2,rfl,b6,hb2⟩;have d:=Qf HO.o hb2;have c6:=HB.up hb2;obtain⟨x0,e0⟩:=H9 d (i*6) (by omega);have g1:=d.frozenAt (i*6);obtain⟨x1,e1⟩:=H9 d (i*6+1) (by omega);have g3:=d.frozenAt (i*6+1);obtain⟨x2,e2⟩:=H9 d (i*6+2) (by omega);have g4:=d.frozenAt (i*6+2);obtain⟨x3,e3⟩:=H9 d (i*6+3) (by omega);have g5:=d.frozenAt (i*6+3);obtain⟨x4,e4⟩:=H9 d (i*6+4) (by omega);have g6:=d.frozenAt (i*6+4);obtain⟨x5,e5⟩:=H9 d (i*6+5) (by omega);have g7:=d.frozenAt (i*6+5);have d1:=Hd d;have Z:=Hd b6;have c8:=Hd hb2;clear hb2 d b6)
  have b7:=((((((d1.o.stored (i*6) (.int .i64 t.op)).1.stored (i*6+1) (.string (Oo t.sort))).1.stored (i*6+2) (.string (Oo t.text))).1.stored (i*6+3) (.int .i64 t.a)).1.stored (i*6+4) (.int .i64 t.b)).1.stored (i*6+5) (.slice (some ⟨g2,0,none⟩) t.kids.length c2)).1;have d3:=Hd b7;have hh:∀ k,k≠w.heap.size->((((((w2.setCell ⟨w.heap.size,i*6,none⟩ (.int .i64 t.op)).setCell ⟨w.heap.size,i*6+1,none⟩ (.string (Oo t.sort))).setCell ⟨w.heap.size,i*6+2,none⟩ (.string (Oo t.text))).setCell ⟨w.heap.size,i*6+3,none⟩ (.int .i64 t.a)).setCell ⟨w.heap.size,i*6+4,none⟩ (.int .i64 t.b)).setCell ⟨w.heap.size,i*6+5,none⟩ (.slice (some ⟨g2,0,none⟩) t.kids.length c2)).heap[k]? = w2.heap[k]? := fun k hk=>by rw[Jq _ ⟨w.heap.size,i*6+5,none⟩ _ _ hk,Jq _ ⟨w.heap.size,i*6+4,none⟩ _ _ hk,Jq _ ⟨w.heap.size,i*6+3,none⟩ _ _ hk,Jq _ ⟨w.heap.size,i*6+2,none⟩ _ _ hk,Jq _ ⟨w.heap.size,i*6+1,none⟩ _ _ hk,Jq _ ⟨w.heap.size,i*6,none⟩ _ _ hk]
  have V:=Hd hh;clear b7 hh
  go_roundw
  case rel=>
   refine⟨i+1,_,by omega,by go_num,Y.o _ (.slice (some ⟨g2,0,none⟩) t.kids.length c2) (fun k hk hk2=>(V.o k (by omega)).trans (c8.o.block k hk2)) ?_,d3.o,((((((c6.o.sc).sc).sc).sc).sc).sc)⟩;exact E7 (Ox Z.o (fun g hg=>V.o g (fun e=>by have:=Ot Z.o g hg;have:=U.o;omega))) U.o
  simp[intOf];omega
 have d7:i=T.length:=by omega
 subst d7;clear G M I
 go_wp2
 go_ret
 refine⟨_,rfl,⟨_,_,rfl⟩,fun W' hsz hkk=>?_,HB.o⟩;have E:W'.ownsRow _ _ _ _ _ _:=Ox HO.o (fun g hg=>hkk g (Ot HO.o g hg) (HO.o.lt g hg).2);refine⟨⟨_,_,rfl,Of,by unfold maxLen;omega,.inr ⟨w.heap.size,rfl,Jz U.o hsz,fun j hj=>?_⟩⟩,MR E Of Of,fun g c e j hj=>?_⟩
 ·obtain⟨h0,h1,h2,h3,h4,va,h5,A⟩:=O.o j hj hj;refine⟨?_,?_,?_,?_,?_,va,?_,UX (Ox A (fun g hg=>hkk g (Yk (Y2 _) (Ot A g hg)) (A.lt g hg).2))⟩
  ·rw[E.cellAt (j*6) (by omega)];exact h0
  ·rw[E.cellAt (j*6+1) (by omega)];exact h1
  ·rw[E.cellAt (j*6+2) (by omega)];exact h2
  ·rw[E.cellAt (j*6+3) (by omega)];exact h3
  ·rw[E.cellAt (j*6+4) (by omega)];exact h4
  rw[E.cellAt (j*6+5) (by omega)];exact h5
 obtain⟨-,-,-,-,-,va,h5,A⟩:=O.o j hj hj
 cases e
 exact⟨va,by rw[E.cellAt (j*6+5) (by omega)];exact h5,MR (Ox A (fun g hg=>hkk g (Yk (Y2 _) (Ot A g hg)) (A.lt g hg).2)) (Y2 _) Of⟩
theorem MV {vs vf vt:Value}{S:List (List UInt8)}{F:List Fn}{T:List Tm}(w:World)(h:ArgBank w vs vf vt S F T)(hs:SmallB S F T) :
 Calls prog 10 #[.agg #[vs,vf,vt]] w fun e w'=>∃ us uf ut,e=.returned (.agg #[us,uf,ut])/\BankAt w' us uf ut S F T/\(∃ ad n c,us=.slice (some ad) n c)/\BankW w' w.heap.size w'.heap.size us uf ut S F T/\Up w w':=by
 obtain⟨a1,c1,e1,-,-,-,-⟩:=h.s;obtain⟨a2,c2,e2,-,-,-,-⟩:=h.f;obtain⟨a3,c3,e3,-,-,-,-⟩:=h.t;have HH:=Hd h;subst e1 e2 e3;clear h
 go_in
 go_wp2_with fail
 obtain⟨W3,g7,g8,x1,x2,x3,g9⟩:=CY w [.slice a1 S.length c1,.slice a2 F.length c2,.slice a3 T.length c3] [.slice none 0 0,.slice none 0 0,.slice none 0 0] [.slice none 0 0,.slice none 0 0,.slice none 0 0] 26 32 32;rw[g7];clear g7;have e7:=Hd g8;have g0:=Hd x1;have g1:=Hd x2;have g2:=Hd x3;have b3:=Hd g9;clear g8 x1 x2 x3 g9;refine (Q5 _ S W3 (HH.o.bl e7.o).s hs.s).mono ?_;rintro e w4 ⟨M,c4,rfl,Y,J⟩;have h8:=e7.up J;have f5:=Hd Y;have O:=Hd (g0.o.bl g0.o.lt J);have A:=Hd (g1.o.bl g1.o.lt J);have d:=Hd (g2.o.bl g2.o.lt J);have j2:Hid (w.heap.size+1+1+1<=w4.heap.size):=by have:=J.size;have:=b3.o;unfold Hid;omega
 clear Y J;obtain⟨b0,b1,b2⟩:=O.o.c3;have q0:=d.o.c3.1;have r0:=d.o.fz 0;obtain⟨Z,G⟩:=O1 (w4.setCell ⟨w.heap.size+1+1,0,none⟩ (.slice (some ⟨M,0,none⟩) S.length c4));have h5:∀ k,k≠w.heap.size+1+1->Z.heap[k]? = w4.heap[k]? := fun k hk=>by rw[<-G];exact Jq _ ⟨w.heap.size+1+1,0,none⟩ _ _ hk
 have d5:Hid (Bx Z w.heap.size [.slice a1 S.length c1,.slice a2 F.length c2,.slice a3 T.length c3]):=by
  obtain⟨ty,E⟩:=O.o;exact⟨ty,(h5 _ (by omega)).trans E⟩
 have U:Hid (Bx Z (w.heap.size+1) [.slice none 0 0,.slice none 0 0,.slice none 0 0]):=by
  obtain⟨ty,E⟩:=A.o;exact⟨ty,(h5 _ (by omega)).trans E⟩
 have V:Hid (Bx Z (w.heap.size+1+1) [.slice (some ⟨M,0,none⟩) S.length c4,.slice none 0 0,.slice none 0 0]):=by unfold Hid;rw[<-G];exact d.o.set 0 _
 have e8:Hid (Up w Z):=by unfold Hid;rw[<-G];exact h8.o.setCell (p:=⟨w.heap.size+1+1,0,none⟩) (by show _<=w.heap.size+1+1;omega) _
 have j0:Hid (Z.ownsRow W3.heap.size 9 1 (.slice (some ⟨M,0,none⟩) S.length c4) S.length (U3 S)):=Ox f5.o (fun g hg=>h5 g (fun e=>by have:=Ot f5.o g hg;have:=b3.o;omega));have d3:Hid (w.heap.size+1+1+1<=Z.heap.size):=by have:=j2.o;unfold Hid;rw[<-G];simpa[World.setCell] using this
 have j5:=Hd G;clear G h5
 go_wp2_with fail
 clear b0 b1 b2 q0 r0;rw[j5.o];refine (BL _ F Z (HH.o.bl e8.o).f hs.f).mono ?_;rintro e w6 ⟨uf,rfl,⟨p6,d6,rfl⟩,c6,j⟩;have i6:=Hd c6;have h9:=e8.up j;have k7:=Hd j;have O:=Hd (d5.o.bl d5.o.lt j);have A:=Hd (U.o.bl U.o.lt j);have d:=Hd (V.o.bl V.o.lt j);have f8:=Hd (Qf j0.o j);have j3:Hid (w.heap.size+1+1+1<=w6.heap.size):=by have:=j.size;have:=d3.o;unfold Hid;omega
 clear c6 j;obtain⟨b0,b1,b2⟩:=O.o.c3;have q1:=d.o.c3.2.1;have r1:=d.o.fz 1;obtain⟨W7,I⟩:=O1 (w6.setCell ⟨w.heap.size+1+1,1,none⟩ (.slice p6 F.length d6));have h7:∀ k,k≠w.heap.size+1+1->W7.heap[k]? = w6.heap[k]? := fun k hk=>by rw[<-I];exact Jq _ ⟨w.heap.size+1+1,1,none⟩ _ _ hk
 have d5:Hid (Bx W7 w.heap.size [.slice a1 S.length c1,.slice a2 F.length c2,.slice a3 T.length c3]):=by
  obtain⟨ty,E⟩:=O.o;exact⟨ty,(h7 _ (by omega)).trans E⟩
 have U:Hid (Bx W7 (w.heap.size+1) [.slice none 0 0,.slice none 0 0,.slice none 0 0]):=by
  obtain⟨ty,E⟩:=A.o;exact⟨ty,(h7 _ (by omega)).trans E⟩
 have V:Hid (Bx W7 (w.heap.size+1+1) [.slice (some ⟨M,0,none⟩) S.length c4,.slice p6 F.length d6,.slice none 0 0]):=by unfold Hid;rw[<-I];exact d.o.set 1 _
 have e9:Hid (Up w W7):=by unfold Hid;rw[<-I];exact h9.o.setCell (p:=⟨w.heap.size+1+1,1,none⟩) (by show _<=w.heap.size+1+1;omega) _
 have j1:Hid (W7.ownsRow W3.heap.size 9 1 (.slice (some ⟨M,0,none⟩) S.length c4) S.length (U3 S)):=Ox f8.o (fun g hg=>h7 g (fun e=>by have:=Ot f8.o g hg;have:=b3.o;omega));have d4:Hid (w6.heap.size=W7.heap.size):=by unfold Hid;rw[<-I];simp[World.setCell]
 have i7:Hid (IV Z.heap.size W7 (fun W=>Eh W (.slice p6 F.length d6) F/\MN W Z.heap.size W.heap.size (.slice p6 F.length d6) F)):=fun W hsz hk=>i6.o W (by have:=d4.o;omega) (fun k hk1 hk2=>(hk k hk1 (by have:=d4.o;omega)).trans (h7 k (by have:=d3.o;omega)));have j6:=Hd I;clear I h7
 go_wp2_with fail
 clear b0 b1 b2 q1 r1;rw[j6.o];refine (BP _ T W7 (HH.o.bl e9.o).t hs.t).mono ?_;rintro e w8 ⟨ut,rfl,⟨p8,d8,rfl⟩,c8,K⟩;have j4:=Hd c8;have i1:=e9.up K;have b8:=Hd K;have A:=Hd (U.o.bl U.o.lt K);have d:=Hd (V.o.bl V.o.lt K);have f9:=Hd (Qf j1.o K);clear c8 K;obtain⟨d0,d1,d2⟩:=A.o.c3;obtain⟨q0,q1,q2⟩:=d.o.c3;obtain⟨f0,f1,f2⟩:=A.o.f3;have r2:=d.o.fz 2
 go_wp2_with fail
 clear d0 d1 d2 q0 q1 q2 f0 f1 f2 r2;have j9:w.heap.size+1≠w.heap.size+1+1:=by omega
 have hA:Bx (w8.setCell ⟨w.heap.size+1+1,2,none⟩ (.slice p8 T.length d8)) (w.heap.size+1) [.slice none 0 0,.slice none 0 0,.slice none 0 0]:=by
  obtain⟨ty,E⟩:=A.o;refine⟨ty,?_⟩;rw[Jq _ ⟨w.heap.size+1+1,2,none⟩ _ _ j9];exact E
 have hE:=((hA.set 0 (.slice (some ⟨M,0,none⟩) S.length c4)).set 1 (.slice p6 F.length d6)).set 2 (.slice p8 T.length d8);have d7:=(((i1.o.setCell (p:=⟨w.heap.size+1+1,2,none⟩) (by show _<=w.heap.size+1+1;omega) (.slice p8 T.length d8)).setCell (p:=⟨w.heap.size+1,0,none⟩) (by show _<=w.heap.size+1;omega) (.slice (some ⟨M,0,none⟩) S.length c4)).setCell (p:=⟨w.heap.size+1,1,none⟩) (by show _<=w.heap.size+1;omega) (.slice p6 F.length d6)).setCell (p:=⟨w.heap.size+1,2,none⟩) (by show _<=w.heap.size+1;omega) (.slice p8 T.length d8);generalize e6:(((w8.setCell ⟨w.heap.size+1+1,2,none⟩ (.slice p8 T.length d8)).setCell ⟨w.heap.size+1,0,none⟩ (.slice (some ⟨M,0,none⟩) S.length c4)).setCell ⟨w.heap.size+1,1,none⟩ (.slice p6 F.length d6)).setCell ⟨w.heap.size+1,2,none⟩ (.slice p8 T.length d8)=WE at hE d7 ⊢;have E:∀ k,k≠w.heap.size+1->k≠w.heap.size+1+1->WE.heap[k]? = w8.heap[k]? := fun k hk hk2=>by rw[<-e6,Jq _ ⟨w.heap.size+1,2,none⟩ _ _ hk,Jq _ ⟨w.heap.size+1,1,none⟩ _ _ hk,Jq _ ⟨w.heap.size+1,0,none⟩ _ _ hk,Jq _ ⟨w.heap.size+1+1,2,none⟩ _ _ hk2]
 have hsz:WE.heap.size=w8.heap.size:=by rw[<-e6];simp[World.setCell]
 have l8:=d3.o;have l9:=j3.o;have m5:=d4.o;have k9:=b8.o.size;have l7:=b3.o;have e4:WE.ownsRow W3.heap.size 9 1 (.slice (some ⟨M,0,none⟩) S.length c4) S.length (U3 S):=Ox f9.o (fun g hg=>by
  have:=Ot f9.o g hg;exact E g (by omega) (by omega))
 have d9:=i7.o WE (by omega) (fun k hk1 hk2=>by rw[E k (by omega) (by omega)];exact b8.o.block k hk2);have e5:=j4.o WE (by omega) (fun k hk1 hk2=>E k (by omega) (by omega));have g5:BankAt WE (.slice (some ⟨M,0,none⟩) S.length c4) (.slice p6 F.length d6) (.slice p8 T.length d8) S F T:=⟨Aq e4,d9.1,e5.1⟩;have g6:BankW WE w.heap.size WE.heap.size (.slice (some ⟨M,0,none⟩) S.length c4) (.slice p6 F.length d6) (.slice p8 T.length d8) S F T:=⟨MR e4 (by omega) Of,d9.2.wide (by omega),e5.2.wide (by omega)⟩;obtain⟨e0,e1,e2⟩:=hE.c3;refine Jj (v:=.agg #[.slice (some ⟨M,0,none⟩) S.length c4,.slice p6 F.length d6,.slice p8 T.length d8]) ?_ rfl ⟨_,_,_,rfl,g5,⟨_,_,_,rfl⟩,g6,d7⟩;clear hA hE d7 g5 g6 e4 d9 e5 E e6;simp[results,results10,go_sem,e0,e1,e2]
end Go.Proofs.YtipgjenolpofpaaGreatDoor
