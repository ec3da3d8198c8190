import Derived.Test.YtdmdmgfjpomdbaaGreatDoorP00
import Derived.Test.YtdmdmgfjpomdbaaGreatDoorP35
import Derived.Deep.RegionHeld3
set_option linter.all false
set_option maxRecDepth 100000
set_option maxHeartbeats 4000000
namespace Go.Proofs.YtdmdmgfjpomdbaaGreatDoor
open ChangeShapes WideShapes ChangeAt RowKit
variable {N0 N1 g n s:Nat}{e:TypeId}{w w' w1 w3:World}
def Xy (w:World)(g:Nat)(e:TypeId)(n:Nat):Prop:=∃ cur:Array Value,w.heap[g]? = some (.cells cur e (0,0))/\n<=cur.size
theorem Xy.lt (h:Xy w g e n):g<w.heap.size:=by
 obtain⟨d,h,_⟩:=h;exact (Jv.1 h).1
theorem Xy.cell (h:Xy w g e n){i:Nat}(hi:i<n):∃ x,w.cell? ⟨g,i,none⟩=some x:=by
 obtain⟨d,h,hn⟩:=h;exact⟨d[i]'(by omega),by unfold World.cell?;simp only[h];simp⟩
theorem Xy.fz (h:Xy w g e n)(i:Nat):w.frozen? ⟨g,i,none⟩=false:=by
 obtain⟨d,h,_⟩:=h;unfold World.frozen?;simp only[h];simp
theorem Xy.set (h:Xy w g e n)(b i:Nat)(v:Value):Xy (w.setCell ⟨b,i,none⟩ v) g e n:=by
 obtain⟨d,h,hn⟩:=h
 by_cases e:g=b
 ·subst e;exact⟨_,heap_setCell_same w g i d _ v h,by simpa using hn⟩
 exact⟨d,(Jh w ⟨b,i,none⟩ v g e).trans h,hn⟩
theorem Xy.keep (h:Xy w g e n)(hk:w'.heap[g]? = w.heap[g]?):Xy w' g e n:=by
 obtain⟨d,h,hn⟩:=h;exact⟨d,hk.trans h,hn⟩
theorem MJ {base c:Nat}{xs:List Value}(h:w.ownsRow base e s (.slice (some ⟨g,0,none⟩) n c) n xs):Xy w g e (n*s):=by
 rcases h.2 with⟨j,_⟩|⟨G,cap,d,E,_,hb,A,_,h2,_⟩
 ·cases j
 cases E;exact⟨d,hb,by rw[h2];exact Yg _ A⟩
structure MkB (N0 N1:Nat)(w w':World):Prop where
 os:w'.os=w.os
 tape:w'.tape=w.tape
 output:w'.output=w.output
 size:w.heap.size<=w'.heap.size
 block:∀ b,b<w.heap.size->(b<N0∨N1<=b)->w'.heap[b]? = w.heap[b]?
 sl:∀ g e n,Xy w g e n->Xy w' g e n
theorem MkB.refl (N0 N1:Nat)(w:World):MkB N0 N1 w w:=⟨rfl,rfl,rfl,leR,fun _ _ _=>rfl,fun _ _ _ h=>h⟩
theorem MkB.trans {w2:World}(h:MkB N0 N1 w1 w2)(h':MkB N0 N1 w2 w3):MkB N0 N1 w1 w3:=
 ⟨h'.os.trans h.os,h'.tape.trans h.tape,h'.output.trans h.output,Yc h.size h'.size,fun b hb hn=>(h'.block b (Jq hb h.size) hn).trans (h.block b hb hn),fun g e n hs=>h'.sl g e n (h.sl g e n hs)⟩
theorem MkB.bl {w2:World}(h:MkB N0 N1 w1 w2)(hb:Up w2 w3):MkB N0 N1 w1 w3:=
 h.trans ⟨hb.os,hb.tape,hb.output,hb.size,fun b hl _=>hb.block b hl,fun g _ _ hs=>hs.keep (hb.block g hs.lt)⟩
theorem MkB.set {w2:World}(h:MkB N0 N1 w1 w2){b:Nat}(h0:N0<=b)(h1:b<N1)(i:Nat)(v:Value):MkB N0 N1 w1 (w2.setCell ⟨b,i,none⟩ v):=
 h.trans ⟨rfl,rfl,rfl,by simp[World.setCell],fun k _ hn=>Jh w2 ⟨b,i,none⟩ v k (by show k≠b;omega),fun g _ _ hs=>hs.set b i v⟩
def ZF (E:List TypeId)(w w':World):Prop:=∀ b,b<w.heap.size->(∀ e∈E,∀ cur fz,w.heap[b]? ≠ some (.cells cur e fz))->w'.heap[b]? = w.heap[b]?
theorem ZF.refl (E:List TypeId)(w:World):ZF E w w:=fun _ _ _=>rfl
theorem ZF.trans {E E1 E2:List TypeId}{w2:World}(h:ZF E1 w1 w2)(h':ZF E2 w2 w3)(hs:w1.heap.size<=w2.heap.size)(s1:∀ e∈E1,e∈E)(s2:∀ e∈E2,e∈E):ZF E w1 w3:=fun b hl hk=>by
 have d:=h b hl (fun e he=>hk e (s1 e he))
 exact (h' b (Jq hl hs) (fun e he=>by rw[d];exact hk e (s2 e he))).trans d
theorem ZF.bl {E:List TypeId}{w2:World}(h:ZF E w1 w2)(hs:w1.heap.size<=w2.heap.size)(hb:Up w2 w3):ZF E w1 w3:=fun b hl hk=>(hb.block b (Jq hl hs)).trans (h b hl hk)
theorem ZF.set {E:List TypeId}{w2:World}(h:ZF E w1 w2)(he:e∈E){b:Nat}(hs:Xy w1 b e n)(i:Nat)(v:Value):ZF E w1 (w2.setCell ⟨b,i,none⟩ v):=fun k hl hk=>(Jh w2 ⟨b,i,none⟩ v k (fun e'=>by
 obtain⟨d,h,_⟩:=hs
 exact hk e he d (0,0) (by rw[e'];exact h))).trans (h k hl hk)
theorem ZF.sl {E:List TypeId}{e':TypeId}(h:ZF E w w')(hs:Xy w g e' n)(hne:e'∉E):w'.heap[g]? = w.heap[g]? := h g hs.lt (fun e he cur fz hh=>by
 obtain⟨c,d,_⟩:=hs
 rw[d] at hh
 cases hh
 exact hne he)
def Cd (w:World)(N0 N1:Nat)(e:TypeId)(s:Nat)(v:Value)(n:Nat):Prop:=
 ∃ p c,v=.slice p n c/\n<=c/\c<=maxLen/\((n=0/\((p=none/\c=0)∨∃ g,p=some ⟨g,0,none⟩))∨∃ g,p=some ⟨g,0,none⟩/\N0<=g/\g<N1/\Xy w g e (n*s))
theorem Cy {base:Nat}{v:Value}{xs:List Value}(h:w.ownsRow base e s v n xs)(h0:N0<=base)(h1:w.heap.size<=N1):Cd w N0 N1 e s v n:=by
 have d:=h
 rcases h.2 with⟨rfl,rfl⟩|⟨g,cap,j,rfl,hb,_,hc,A,_⟩
 ·exact⟨none,0,rfl,leR,Jr _,.inl ⟨rfl,.inl ⟨rfl,rfl⟩⟩⟩
 exact⟨_,cap,rfl,hc,A,.inr ⟨g,rfl,Yc h0 hb,Jq (d.lt g rfl).2 h1,MJ d⟩⟩
theorem Cd.mk {v:Value}(h:Cd w N0 N1 e s v n)(hs:∀ g e n,Xy w g e n->Xy w' g e n):Cd w' N0 N1 e s v n:=by
 obtain⟨p,c,rfl,hc,E,d⟩:=h;refine⟨p,c,rfl,hc,E,?_⟩
 rcases d with d|⟨g,rfl,j,A,d⟩
 ·exact .inl d
 exact .inr ⟨g,rfl,j,A,hs _ _ _ d⟩
end Go.Proofs.YtdmdmgfjpomdbaaGreatDoor
namespace Go.Proofs.YtdmdmgfjpomdbaaGreatDoor
open ChangeShapes WideShapes ChangeAt RowKit Proofs.Tryz
theorem Sj (n k:Nat)(p:Option Addr)(c:Nat)(w:World)(hc:n<=c)(_hm:c<=maxLen)(hn:n<=1048576)(hk:k<=900000000000000)
 (h:n=0∨∃ g,p=some ⟨g,0,none⟩/\∀ j,j<n->w.cell? ⟨g,j,none⟩=some (.int .i64 ((k+j:Nat):Int))) :
 Calls prog 80 #[.slice p n c,.int .i64 (k:Nat)] w fun e w'=>e=.returned (.int .i64 (k+n:Nat))/\Up w w':=by
 have I:=Hd h;clear h
 go_in
 go_wp2
 go_loopw [1,5] (fun kv iv wr=>∃ i:Nat,i<=n/\iv=.int .i64 (i:Nat)/\kv=.int .i64 ((k+i:Nat):Int)/\wr=w) (fun _ iv _=>n - (intOf iv).toNat)
 case atStart=>exact⟨0,Jr _,rfl,rfl,rfl⟩
 obtain⟨i,M,rfl,rfl,rfl⟩:=hrel
 by_cases E:i<n
 ·obtain⟨g,rfl,G⟩:∃ g,p=some ⟨g,0,none⟩/\∀ j,j<n->wr.cell? ⟨g,j,none⟩=some (.int .i64 ((k+j:Nat):Int)):=by
   rcases I.o with h|h
   ·omega
   exact h
  obtain⟨kk,d⟩:∃ kk:Nat,k+i=kk:=⟨_,rfl⟩;have J:kk<=1000000000000000:=by omega
  have A:=Hd d;have K:=G i E;rw[d] at K ⊢;clear d G
  go_wp2
  go_roundw
  case rel=>exact⟨i+1,by omega,by go_num,by have:=A.o;rw[show k+(i+1)=kk+1 by omega];go_num,trivial⟩
  simp[intOf];omega
 obtain rfl:i=n:=by omega
 go_wp2
 go_ret
 exact⟨rfl,Je _ _⟩
end Go.Proofs.YtdmdmgfjpomdbaaGreatDoor
namespace Go.Proofs.YtdmdmgfjpomdbaaGreatDoor
open ChangeShapes WideShapes ChangeAt RowKit
variable {N0 N1 g:Nat}{w w':World}
def ET (w:World)(N0 N1:Nat)(v:Value)(F:List Fn):Prop:=
 Cd w N0 N1 45 3 v F.length/\∀ g c,v=.slice (some ⟨g,0,none⟩) F.length c->∀ i (h:i<F.length),∃ va,w.cell? ⟨g,i*3+1,none⟩=some va/\Cd w N0 N1 9 1 va F[i].args.length
def Sp (w:World)(N0 N1:Nat)(v:Value)(T:List Tm):Prop:=
 Cd w N0 N1 55 6 v T.length/\∀ g c,v=.slice (some ⟨g,0,none⟩) T.length c->∀ i (h:i<T.length),∃ va,w.cell? ⟨g,i*6+5,none⟩=some va/\Cd w N0 N1 3 1 va T[i].kids.length
theorem ET.mk {v:Value}{F:List Fn}{E:List TypeId}(h:ET w N0 N1 v F)(hm:MkB N0 N1 w w')(ht:ZF E w w')(hne:45∉E):ET w' N0 N1 v F:=by
 refine⟨h.1.mk hm.sl,fun g c e i hi=>?_⟩;obtain⟨va,j,h2⟩:=h.2 g c e i hi;refine⟨va,?_,h2.mk hm.sl⟩;obtain⟨p,J,G,_,_,A⟩:=h.1;rw[e] at G;cases G
 rcases A with A|⟨K,d,_,_,I⟩
 ·omega
 cases d
 have:=ht.sl I hne;unfold World.cell? at j ⊢;simp only[this];exact j
theorem Sp.mk {v:Value}{T:List Tm}{E:List TypeId}(h:Sp w N0 N1 v T)(hm:MkB N0 N1 w w')(ht:ZF E w w')(hne:55∉E):Sp w' N0 N1 v T:=by
 refine⟨h.1.mk hm.sl,fun g c e i hi=>?_⟩;obtain⟨va,j,h2⟩:=h.2 g c e i hi;refine⟨va,?_,h2.mk hm.sl⟩;obtain⟨p,J,G,_,_,A⟩:=h.1;rw[e] at G;cases G
 rcases A with A|⟨K,d,_,_,I⟩
 ·omega
 cases d
 have:=ht.sl I hne;unfold World.cell? at j ⊢;simp only[this];exact j
theorem GG {i:Nat}(h:w'.heap[g]? = w.heap[g]?):w'.cell? ⟨g,i,none⟩=w.cell? ⟨g,i,none⟩:=by unfold World.cell?;simp only[h]
theorem Hi {a b:Nat}(h:a≠b):(⟨g,a,none⟩:Addr)≠⟨g,b,none⟩:=by intro e;injection e with _ e2;exact h e2
structure BankW (w:World)(N0 N1:Nat)(vs vf vt:Value)(S:List (List UInt8))(F:List Fn)(T:List Tm):Prop where
 s:Cd w N0 N1 9 1 vs S.length
 f:ET w N0 N1 vf F
 t:Sp w N0 N1 vt T
theorem MkB.box (h:MkB N0 N1 w w'){l:List Value}(hx:Bx w g l)(hg:N1<=g):Bx w' g l:=by
 have:=hx.lt;obtain⟨d,hx⟩:=hx;exact⟨d,(h.block g this (.inr hg)).trans hx⟩
end Go.Proofs.YtdmdmgfjpomdbaaGreatDoor
namespace Go.Proofs.YtdmdmgfjpomdbaaGreatDoor
open ChangeShapes WideShapes ChangeAt RowKit Proofs.Tryz
variable {A B:List Value}{F:List Fn}{N0 N1 b g i k n:Nat}{S:List (List UInt8)}{T:List Tm}{v vf vs vt:Value}{w w' w1:World}
theorem BC {a b:ByteArray}(h:a.data.toList=b.data.toList):a=b:=by
 cases a with|mk x=>
 cases b with|mk y=>
 congr
 exact Array.toList_inj.1 h
def Lk:Nat->Nat->List UInt8->List UInt8
 | 0,_,acc=>acc
 | f+1,k,acc=>if k=0 then acc else Lk f (k / 10) ((48+k % 10).toUInt8::acc)
def Hs (k:Nat):ByteArray:=Oo (109::Lk 20 k [])
theorem VE {f:Nat}{acc:List UInt8}(h:0<k):Lk (f+1) k acc=Lk f (k / 10) ((48+k % 10).toUInt8::acc):=by
 show (if k=0 then _ else _)=_
 rw[if_neg (by omega)]
theorem GM {f:Nat}{acc:List UInt8}:Lk f 0 acc=acc:=by cases f<;>rfl
theorem E6 (k:Nat)(w:World)(h0:0<k)(hk:k<=1000000000000000) :
 Calls prog 63 #[.int .i64 (k:Nat)] w fun e w'=>e=.returned (.string (Hs k))/\Up w w':=by
 obtain⟨D,U⟩:=Oa (Lk 20 k []);have HD:Hid (Hs k=Oo (109::D)):=by unfold Hid Hs;rw[U]
 have J:=Hd U;rw[HD.o];clear U
 go_in
 go_wp2
 go_loopw [0,3] (fun kv ov wr=>∃ (f m:Nat) (acc:List UInt8) (t:ByteArray),m<=1000000000000000/\m<10 ^ f/\f+t.size<=20/\kv=.int .i64 (m:Nat)/\ov=.string t/\t=Oo acc/\Lk f m acc=D/\Up w wr) (fun kv _ _=>(intOf kv).toNat)
 case atStart=>exact⟨20,k,[],⟨#[]⟩,hk,by omega,by decide,rfl,rfl,rfl,J.o,Je _ _⟩
 obtain⟨f,m,acc,t,hm,h,b6,rfl,rfl,G,d,O⟩:=hrel;have HB:=Hd O;have E:=Hd G;have a7:=O.size;clear O G
 by_cases Z:0<m
 ·obtain⟨f',rfl⟩:∃ f',f=f'+1:=⟨f - 1,by cases f with|zero=>simp at h;omega|succ f=>rfl⟩;rw[VE Z] at d;have K:=Hd d;have A:m / 10<10 ^ f':=by rw[J7] at h;omega
  have M:=Hd A;obtain⟨Y,I⟩:=Oa (Oo [(48+m % 10).toUInt8]);have b5:Y.size=1:=by rw[<-I];rfl
  have HY:=Hd I;have V:(convert 112 9 (.slice (some ⟨wr.heap.size,0,none⟩) 1 1)).run prog (wr.alloc (.cells #[.int .u8 (48+(m:Int) % 10)] 5))=.ok (.string Y) (wr.alloc (.cells #[.int .u8 (48+(m:Int) % 10)] 5)):=by
   have hx:=Oi wr [.int .u8 (48+(m:Int) % 10)] 5;rw[<-I];exact run_convert_bytes_back (P:=prog) _ 112 9 5 ⟨wr.heap.size,0,none⟩ 1 [(48+m % 10).toUInt8] underlying112 underlying5 underlying9 (fun j hj=>by
    obtain rfl:j=0:=by simpa using hj
    refine (hx.cell 0).trans ?_
    show some (Value.int .u8 _)=some (Value.int .u8 _)
    have:(48+m % 10).toUInt8.toNat=48+m % 10:=by rw[Nat.toUInt8,UInt8.toNat_ofNat'];omega
    rw[show ([(48+m % 10).toUInt8]:List UInt8)[0]=(48+m % 10).toUInt8 from rfl,this]
    congr 3)
  clear d h A I
  go_wp2
  go_roundw
  case rel=>
   refine⟨f',m / 10,(48+m % 10).toUInt8::acc,Y++t,by omega,M.o,?_,by go_num,rfl,?_,K.o,HB.o.alloc a7 _⟩
   ·rw[ByteArray.size_append];omega
   rw[<-HY.o,E.o];apply BC;simp[Oo]
  simp[intOf];omega
 obtain rfl:m=0:=by omega
 rw[GM] at d;have K:=Hd d;clear d h
 go_wp2
 go_ret
 refine⟨?_,HB.o⟩;rw[<-K.o,E.o]
 congr 2
structure OnB (P:Nat->Prop)(w w':World):Prop where
 os:w'.os=w.os
 tape:w'.tape=w.tape
 output:w'.output=w.output
 size:w.heap.size<=w'.heap.size
 block:∀ b,b<w.heap.size->¬ P b->w'.heap[b]? = w.heap[b]?
 sl:∀ g e n,Xy w g e n->Xy w' g e n
theorem OnB.refl (P:Nat->Prop)(w:World):OnB P w w:=⟨rfl,rfl,rfl,leR,fun _ _ _=>rfl,fun _ _ _ h=>h⟩
theorem OnB.trans {P:Nat->Prop}{w2 w3:World}(h:OnB P w1 w2)(h':OnB P w2 w3):OnB P w1 w3:=
 ⟨h'.os.trans h.os,h'.tape.trans h.tape,h'.output.trans h.output,Yc h.size h'.size,fun b hb hn=>(h'.block b (Jq hb h.size) hn).trans (h.block b hb hn),fun g e n hs=>h'.sl g e n (h.sl g e n hs)⟩
theorem OnB.mono {P Q:Nat->Prop}{w2:World}(h:OnB P w1 w2)(hPQ:∀ b,P b->Q b):OnB Q w1 w2:=⟨h.os,h.tape,h.output,h.size,fun b hb hn=>h.block b hb (fun hp=>hn (hPQ b hp)),h.sl⟩
theorem OnB.bl {P:Nat->Prop}{w2 w3:World}(h:OnB P w1 w2)(hb:Up w2 w3):OnB P w1 w3:=
 h.trans ⟨hb.os,hb.tape,hb.output,hb.size,fun b hl _=>hb.block b hl,fun g _ _ hs=>hs.keep (hb.block g hs.lt)⟩
theorem OnB.set {P:Nat->Prop}{w2:World}(h:OnB P w1 w2)(hb:P b)(i:Nat)(v:Value):OnB P w1 (w2.setCell ⟨b,i,none⟩ v):=
 h.trans ⟨rfl,rfl,rfl,by simp[World.setCell],fun k _ hn=>Jh w2 ⟨b,i,none⟩ v k (fun e=>hn (by rw[show k=b from e];exact hb)),fun g _ _ hs=>hs.set b i v⟩
theorem OnB.cell {P:Nat->Prop}{w2:World}(h:OnB P w1 w2){x:Value}(hc:w1.cell? ⟨b,i,none⟩=some x)(hn:¬ P b):w2.cell? ⟨b,i,none⟩=some x:=by
 have hl:b<w1.heap.size:=J5 w1 _ hc;exact (GG (h.block b hl hn)).trans hc
theorem I1 (N0 N1 n k:Nat)(v:Value)(w:World)(h:Cd w N0 N1 9 1 v n)(hn:n<=1048576)(h0:0<k)(hk:k<=900000000000000) :
 Calls prog 42 #[v,.int .i64 (k:Nat)] w fun e w'=>e=.returned (.int .i64 (k+n:Nat))/\OnB (fun b=>v.ownBlock=some b) w w'/\∀ g c,v=.slice (some ⟨g,0,none⟩) n c->∀ j,j<n->w'.cell? ⟨g,j,none⟩=some (.string (Hs (k+j))):=by
 obtain⟨p,c,rfl,hc,hm,hg⟩:=h;unfold maxLen at hm;have HG:=Hd hg;clear hg
 go_in
 go_wp2
 go_loopw [1,5] (fun kv iv wr=>∃ i:Nat,i<=n/\iv=.int .i64 (i:Nat)/\kv=.int .i64 ((k+i:Nat):Int)/\OnB (fun b=>(Value.slice p n c).ownBlock=some b) w wr/\∀ g,p=some ⟨g,0,none⟩->∀ j,j<i->wr.cell? ⟨g,j,none⟩=some (.string (Hs (k+j)))) (fun _ iv _=>n - (intOf iv).toNat)
 case atStart=>exact⟨0,Jr _,rfl,rfl,OnB.refl _ _,fun _ _ j hj=>absurd hj (J2 _)⟩
 obtain⟨i,hi,rfl,rfl,hM,hC⟩:=hrel;have O:=Hd hM;have HC:=Hd hC;clear hM hC
 by_cases a8:i<n
 ·obtain⟨g,rfl,J⟩:∃ g,p=some ⟨g,0,none⟩/\Xy w g 9 n:=by
   rcases HG.o with h|⟨g,e,_,_,h⟩
   ·omega
   exact⟨g,e,by simpa using h⟩
  have I:=Hd J;obtain⟨kk,d⟩:∃ kk:Nat,k+i=kk:=⟨_,rfl⟩;have Z:kk<=1000000000000000:=by omega
  have a7:0<kk:=by omega
  have E:=Hd d;have Y:=(O.o.sl _ _ _ I.o).lt;rw[d];clear d J;obtain⟨X,V⟩:=Oa (Hs kk);have HX:=Hd V;have U:Hid (∀ W,Calls prog 63 #[.int .i64 (kk:Nat)] W fun e w'=>e=.returned (.string X)/\Up W w'):=fun W=>by rw[<-V];exact E6 kk W a7 Z
  clear V
  go_wp2_with (go_at_call 63;refine (U.o _).mono ?_;rintro e w2 ⟨rfl,hb2⟩;have G:=Hd (O.o.bl hb2);have K:Hid (∀ j,j<i->w2.cell? ⟨g,j,none⟩=some (.string (Hs (k+j)))):=(fun j hj=>(hb2.cell (p:=⟨g,j,none⟩) Y).trans (HC.o g rfl j hj));have A:=G.o.sl _ _ _ I.o;obtain⟨x1,k1⟩:=A.cell a8;have f1:=A.fz i;have M:=Hd k1;clear hb2 A)
  go_roundw
  case rel=>
   refine⟨i+1,by omega,by go_num,by have:=E.o;rw[show k+(i+1)=kk+1 by omega];go_num,G.o.set rfl i _,fun g' e j hj=>?_⟩
   cases e
   by_cases e:j=i
   ·subst e;rw[Ze _ _ _ M.o,E.o,HX.o]
   rw[Yj _ _ _ _ (by intro h;apply e;injection h with _ h2;exact h2.symm)];exact K.o j (by omega)
  simp[intOf];omega
 obtain rfl:i=n:=by omega
 go_wp2
 go_ret
 refine⟨rfl,O.o,fun g c e j hj=>?_⟩
 cases e
 exact HC.o g rfl j hj
theorem Q7 (n k:Nat)(p:Option Addr)(c:Nat)(w:World)(hc:n<=c)(hm:c<=maxLen)(hn:n<=1048576)(h0:0<k)(hk:k<=900000000000000)
 (h:n=0∨∃ g,p=some ⟨g,0,none⟩/\g<w.heap.size/\∀ j,j<n->w.cell? ⟨g,j,none⟩=some (.string (Hs (k+j)))) :
 Calls prog 64 #[.slice p n c,.int .i64 (k:Nat)] w fun e w'=>e=.returned (.int .i64 (k+n:Nat))/\Up w w':=by
 unfold maxLen at hm;have HG:=Hd h;clear h
 go_in
 go_wp2
 go_loopw [1,5] (fun kv iv wr=>∃ i:Nat,i<=n/\iv=.int .i64 (i:Nat)/\kv=.int .i64 ((k+i:Nat):Int)/\Up w wr) (fun _ iv _=>n - (intOf iv).toNat)
 case atStart=>exact⟨0,Jr _,rfl,rfl,Je _ _⟩
 obtain⟨i,hi,rfl,rfl,E⟩:=hrel;have G:=Hd E
 by_cases Z:i<n
 ·obtain⟨g,rfl,U,hh⟩:∃ g,p=some ⟨g,0,none⟩/\g<w.heap.size/\∀ j,j<n->w.cell? ⟨g,j,none⟩=some (.string (Hs (k+j))):=by
   rcases HG.o with h|h
   ·omega
   exact h
  obtain⟨kk,A⟩:∃ kk:Nat,k+i=kk:=⟨_,rfl⟩;have V:kk<=1000000000000000:=by omega
  have Y:0<kk:=by omega
  have J:=Hd A;have k1:=(E.cell (p:=⟨g,i,none⟩) U).trans (hh i Z);rw[A] at k1 ⊢;obtain⟨X,M⟩:=Oa (Hs kk);have K:Hid (∀ W,Calls prog 63 #[.int .i64 (kk:Nat)] W fun e w'=>e=.returned (.string X)/\Up W w'):=fun W=>by rw[<-M];exact E6 kk W Y V
  rw[M] at k1;have a7:=G.o.size;have O:g<wr.heap.size:=by omega
  clear A hh M E
  go_wp2
  go_region_held3 (fun w'=>w'.cell? ⟨g,i,none⟩=some (.string X))
   (first
     | go_keep
     | (rw[d.cell (p:=⟨g,i,none⟩) O];assumption))
   ((go_at_call 63;refine (K.o _).mono ?_;rintro e w2 ⟨rfl,d⟩))
  all_goals
   have I:Hid (Up w w2):=(G.o.drew).trans (d.mono a7);clear d
   go_wp2
   go_roundw
   case rel=>exact⟨i+1,by omega,by go_num,by have:=J.o;rw[show k+(i+1)=kk+1 by omega];go_num,I.o⟩
   simp[intOf];omega
 obtain rfl:i=n:=by omega
 clear E
 go_wp2
 go_ret
 exact⟨rfl,G.o⟩
def kfF (F:List Fn)(k i:Nat):Nat:=k+((F.take i).map (fun f=>f.args.length+2)).sum
theorem L8 (F:List Fn)(k:Nat):kfF F k 0=k:=by simp[kfF]
theorem L4 (h:i<F.length):kfF F k (i+1)=kfF F k i+F[i].args.length+2:=by
 unfold kfF;rw[List.take_add_one,Jd h,Option.toList_some,Yr,List.sum_append];simp only[Vh,Vt,List.sum_cons,List.sum_nil];omega
theorem Ds {F:List Fn}{k:Nat}(ha:∀ f∈F,f.args.length<=1048576):∀ i,i<=F.length->kfF F k i<=k+i*1048578
 | 0,_=>by rw[L8];omega
 | i+1,h=>by
   have:=Ds (k:=k) ha i (by omega)
   have:=ha _ (Jo (show i<F.length by omega))
   rw[L4 (by omega)]
   omega
def Fw (w:World)(v:Value)(n k:Nat):Prop:=∀ g c,v=.slice (some ⟨g,0,none⟩) n c->∀ j,j<n->w.cell? ⟨g,j,none⟩=some (.string (Hs (k+j)))
theorem Fw.on {P:Nat->Prop}(h:Fw w v n k)(ho:OnB P w w')(hn:∀ b,v.ownBlock=some b->¬ P b):Fw w' v n k:=fun g c e j hj=>ho.cell (h g c e j hj) (hn g (by rw[e];rfl))
theorem Re {g' n':Nat}{e e':TypeId}(h:Xy w g e n)(h':Xy w g' e' n')(hne:e≠e'):g≠g':=by
 rintro rfl;obtain⟨c,d,_⟩:=h;obtain⟨j,h2,_⟩:=h';rw[d] at h2;cases h2;exact hne rfl
structure FunsX (w:World)(N0 N1:Nat)(v:Value)(F:List Fn)(A:List Value):Prop where
 row:Cd w N0 N1 45 3 v F.length
 len:A.length=F.length
 at':∀ g c,v=.slice (some ⟨g,0,none⟩) F.length c->∀ i (h:i<A.length),w.cell? ⟨g,i*3+1,none⟩=some A[i]
 rows:∀ i (h:i<A.length) (h':i<F.length),Cd w N0 N1 9 1 A[i] F[i].args.length/\∀ b,A[i].ownBlock=some b->∃ n,Xy w b 9 n
 apart:∀ i j (hi:i<A.length) (hj:j<A.length),i<j->∀ b,A[i].ownBlock=some b->A[j].ownBlock≠some b
 kind:∀ b,v.ownBlock=some b->∃ n,Xy w b 45 n
def Qj (w:World)(v:Value)(F:List Fn)(A:List Value)(k m:Nat):Prop:=
 ∀ g c,v=.slice (some ⟨g,0,none⟩) F.length c->∀ i (h:i<F.length) (h':i<A.length),i<m->w.cell? ⟨g,i*3,none⟩=some (.string (Hs (kfF F k i)))/\Fw w A[i] F[i].args.length (kfF F k i+1)/\w.cell? ⟨g,i*3+2,none⟩=some (.string (Hs (kfF F k i+1+F[i].args.length)))
def PF (v:Value)(A:List Value)(b:Nat):Prop:=v.ownBlock=some b∨∃ a∈A,a.ownBlock=some b
theorem Qj.next {c:Nat}(hv:v=.slice (some ⟨g,0,none⟩) F.length c)(h:Qj w v F A k i)
 (hc:∀ q x,q≠i*3->q≠i*3+2->w.cell? ⟨g,q,none⟩=some x->w'.cell? ⟨g,q,none⟩=some x)
 (hr:∀ j (hj:j<A.length) (hj':j<F.length),j<i->Fw w A[j] F[j].args.length (kfF F k j+1)->Fw w' A[j] F[j].args.length (kfF F k j+1))
 (hn:∀ (hi:i<F.length) (hi':i<A.length),w'.cell? ⟨g,i*3,none⟩=some (.string (Hs (kfF F k i)))/\Fw w' A[i] F[i].args.length (kfF F k i+1)/\w'.cell? ⟨g,i*3+2,none⟩=some (.string (Hs (kfF F k i+1+F[i].args.length)))):Qj w' v F A k (i+1):=by
 intro J I e j hj hj' G;rw[hv] at e
 cases e
 by_cases e:j=i
 ·subst e;exact hn hj hj'
 obtain⟨d,E,h2⟩:=h g c hv j hj hj' (by omega);exact⟨hc _ _ (by omega) (by omega) d,hr j hj' hj (by omega) E,hc _ _ (by omega) (by omega) h2⟩
theorem YU (N0 N1 k:Nat)(v:Value)(F:List Fn)(A:List Value)(w:World)(h:FunsX w N0 N1 v F A)(hn:F.length<=1048576)(ha:∀ f∈F,f.args.length<=1048576)(h0:0<k)(hk:k<=100000000) :
 Calls prog 43 #[v,.int .i64 (k:Nat)] w fun e w'=>e=.returned (.int .i64 (kfF F k F.length:Nat))/\OnB (PF v A) w w'/\Qj w' v F A k F.length/\∀ g c,v=.slice (some ⟨g,0,none⟩) F.length c->∀ i (h:i<A.length),w'.cell? ⟨g,i*3+1,none⟩=some A[i]:=by
 have HX:=Hd h;obtain⟨⟨p,c,rfl,hc,hm,hg⟩,j7,-,-,-,-⟩:=h;unfold maxLen at hm;have HG:=Hd hg;have d1:=Hd ha;clear hg ha
 go_in
 go_wp2
 go_loopw [1,5] (fun kv iv wr=>∃ i:Nat,i<=F.length/\iv=.int .i64 (i:Nat)/\kv=.int .i64 (kfF F k i:Nat)/\OnB (PF (.slice p F.length c) A) w wr/\Qj wr (.slice p F.length c) F A k i/\∀ g,p=some ⟨g,0,none⟩->∀ j (h:j<A.length),wr.cell? ⟨g,j*3+1,none⟩=some A[j]) (fun _ iv _=>F.length - (intOf iv).toNat)
 case atStart=>exact⟨0,Jr _,rfl,by rw[L8],OnB.refl _ _,fun _ _ _ _ _ _ h=>absurd h (J2 _),fun g e j hj=>HX.o.at' g c (by rw[e]) j hj⟩
 obtain⟨i,hi,rfl,rfl,hM,hH,hC⟩:=hrel;have HM:=Hd hM;have HH:=Hd hH;have HC:=Hd hC;clear hM hH hC;have j0:=Ds (k:=k) d1.o i hi
 by_cases K:i<F.length
 ·obtain⟨g,rfl,b9⟩:∃ g,p=some ⟨g,0,none⟩/\Xy w g 45 (F.length*3):=by
   rcases HG.o with h|⟨g,e,_,_,h⟩
   ·omega
   exact⟨g,e,h⟩
  have d:=Hd b9;have G:i<A.length:=by omega
  have c6:=HC.o g rfl i G;have M:=(HX.o.rows i G K).1;have e4:=d1.o _ (Jo K);have U:=Hd (L4 (k:=k) K);obtain⟨m,b6⟩:=Oa (F[i].args.length);obtain⟨a,E⟩:=Oa (A[i]);have g4:=Hd b6;have d0:=Hd E;rw[b6] at M e4 U;rw[E] at c6 M;have e9:Hid (a∈A):=by unfold Hid;rw[<-E];exact Jo G
  have g7:=Hd M;have d4:Hid (∀ b,a.ownBlock=some b->b≠g):=fun b hb=>by
   obtain⟨n,hs⟩:=(HX.o.rows i G K).2 b (by rw[E];exact hb);exact Re hs b9 (by decide)
  obtain⟨k',J⟩:=Oa (kfF F k i);have g2:=Hd J;rw[J] at j0 U ⊢;have i6:0<k':=by rw[<-J];unfold kfF;omega
  obtain⟨pa,ca,rfl,-,-,-⟩:=M;obtain⟨k2,b5⟩:=Oa (k'+1+m);have d8:Hid (∀ W,Cd W N0 N1 9 1 (.slice pa m ca) m->Calls prog 42 #[.slice pa m ca,.int .i64 ((k':Int)+1)] W fun e w'=>e=.returned (.int .i64 (k2:Nat))/\OnB (fun b=>(Value.slice pa m ca).ownBlock=some b) W w'/\Fw w' (.slice pa m ca) m (k'+1)):=fun W hW=>by
   rw[<-b5];exact I1 N0 N1 m (k'+1) _ W hW e4 (by omega) (by omega)
  have d5:=Hd b5;have i7:0<k2:=by omega
  have i8:k2<=1000000000000000:=by omega
  obtain⟨X1,a7⟩:∃ X,Hs k'=X:=⟨_,rfl⟩;have h6:=Hd a7;obtain⟨X2,a8⟩:∃ X,Hs k2=X:=⟨_,rfl⟩;have h7:=Hd a8;have g8:Hid (∀ W,Calls prog 63 #[.int .i64 (k':Nat)] W fun e w'=>e=.returned (.string X1)/\Up W w'):=fun W=>by rw[<-a7];exact E6 k' W i6 (by omega)
  have g9:Hid (∀ W,Calls prog 63 #[.int .i64 (k2:Nat)] W fun e w'=>e=.returned (.string X2)/\Up W w'):=fun W=>by rw[<-a8];exact E6 k2 W i7 i8
  have b4:=(HM.o.sl _ _ _ d.o).lt;have d2:=Hd c6;clear b5 b9 a7 a8 J E b6 c6
  go_wp2_with fail
  refine (g8.o _).mono ?_;rintro e w2 ⟨rfl,hb2⟩;have V:=Hd (HM.o.bl hb2);have b7:=V.o.sl _ _ _ d.o;obtain⟨x1,k1⟩:=b7.cell (i:=i*3) (by omega);have f1:=b7.fz (i*3);have a1:=(hb2.cell (p:=⟨g,i*3+1,none⟩) b4).trans d2.o;have g0:=Hd k1;have f9:Hid (∀ j (h:j<A.length),w2.cell? ⟨g,j*3+1,none⟩=some A[j]):=fun j hj=>(hb2.cell (p:=⟨g,j*3+1,none⟩) b4).trans (HC.o g rfl j hj);have d3:=Hd hb2;clear hb2 b7
  go_wp2_with fail
  have Y:=Hd (V.o.set (.inl rfl) (i*3) (.string X1));refine (d8.o _ (g7.o.mk Y.o.sl)).mono ?_;rintro e w4 ⟨rfl,I,e6⟩;have g5:=Hd I;have g6:=Hd e6;have d6:Hid (OnB (PF (.slice (some ⟨g,0,none⟩) F.length c) A) w w4):=Y.o.trans (I.mono (fun b hb=>.inr ⟨_,e9.o,hb⟩));have d9:Hid (∀ q x,(w2.setCell ⟨g,i*3,none⟩ (.string X1)).cell? ⟨g,q,none⟩=some x->w4.cell? ⟨g,q,none⟩=some x):=fun q x hx=>I.cell hx (fun hb=>d4.o g hb rfl);have e5:=(d6.o.sl _ _ _ d.o).lt;clear I e6 V Y k1 f1 a1 d8
  go_wp2_with fail
  refine (g9.o _).mono ?_;rintro e w5 ⟨rfl,b3⟩;have d7:=Hd (d6.o.bl b3);have b8:=d7.o.sl _ _ _ d.o;obtain⟨x5,k5⟩:=b8.cell (i:=i*3+2) (by omega);have f5:=b8.fz (i*3+2);have g1:=Hd k5;have O:=Hd b3;clear b3 b8
  go_wp2
  go_roundw
  case rel=>
   have Z:∀ q x,q≠i*3+2->w4.cell? ⟨g,q,none⟩=some x->(w5.setCell ⟨g,i*3+2,none⟩ (.string X2)).cell? ⟨g,q,none⟩=some x:=fun q x h hx=>(Yj _ _ _ _ (Hi (Ne.symm h))).trans ((O.o.cell (p:=⟨g,q,none⟩) e5).trans hx);have e3:∀ q x,q≠i*3->w2.cell? ⟨g,q,none⟩=some x->w4.cell? ⟨g,q,none⟩=some x:=fun q x h hx=>d9.o q x ((Yj _ _ _ _ (Hi (Ne.symm h))).trans hx);have hO:OnB (fun b=>b=g∨(Value.slice pa m ca).ownBlock=some b) wr (w5.setCell ⟨g,i*3+2,none⟩ (.string X2)):=
    ((((((OnB.refl _ wr).bl d3.o).set (.inl rfl) (i*3) (.string X1)).trans (g5.o.mono (fun b hb=>.inr hb))).bl O.o).set (.inl rfl) (i*3+2) (.string X2))
   have h8:OnB (fun b=>b=g) w4 (w5.setCell ⟨g,i*3+2,none⟩ (.string X2)):=(((OnB.refl (fun b=>b=g) w4).bl O.o).set rfl (i*3+2) (.string X2));refine⟨i+1,by omega,by go_num,?_,d7.o.set (.inl rfl) (i*3+2) _,Qj.next rfl HH.o ?_ ?_ ?_,fun g' e j hj=>?_⟩
   ·have:=d5.o;rw[U.o,show k'+m+2=k2+1 by omega];go_num
   ·intro q x h1 h2 hx;exact Z q x h2 (e3 q x h1 ((d3.o.cell (p:=⟨g,q,none⟩) b4).trans hx))
   ·intro j hj h9 i1 hR;refine hR.on hO fun b hb=>?_;rintro (rfl|hb2)
    ·obtain⟨n,hs⟩:=(HX.o.rows j hj h9).2 b hb;exact Re hs d.o (by decide) rfl
    exact HX.o.apart j i hj G i1 b hb (by rw[d0.o];exact hb2)
   ·intro _ _;rw[g2.o,d0.o,g4.o,h6.o,d5.o,h7.o];refine⟨Z _ _ (by omega) (d9.o _ _ (Ze _ _ _ g0.o)),g6.o.on h8 (fun b hb e=>d4.o b hb e),Ze _ _ _ g1.o⟩
   cases e
   exact Z _ _ (by omega) (e3 _ _ (by omega) (f9.o j hj))
  simp[intOf];omega
 obtain rfl:i=F.length:=by omega
 go_wp2
 go_ret
 refine⟨rfl,HM.o,HH.o,fun g c e j hj=>?_⟩
 cases e
 exact HC.o g rfl j hj
theorem OR (k:Nat)(p:Option Addr)(c:Nat)(F:List Fn)(A:List Value)(w:World)(hc:F.length<=c)(hm:c<=maxLen)(hn:F.length<=1048576)(ha:∀ f∈F,f.args.length<=1048576)(h0:0<k)(hk:k<=100000000)(hlen:A.length=F.length)
 (hp:F.length=0∨∃ g,p=some ⟨g,0,none⟩) (hat:∀ g,p=some ⟨g,0,none⟩->∀ i (h:i<A.length),w.cell? ⟨g,i*3+1,none⟩=some A[i]) (hH:Qj w (.slice p F.length c) F A k F.length)
 (hrow:∀ i (h:i<A.length) (h':i<F.length),∃ pa ca,A[i]=.slice pa F[i].args.length ca/\F[i].args.length<=ca/\ca<=maxLen/\(F[i].args.length=0∨∃ g,pa=some ⟨g,0,none⟩)) :
 Calls prog 65 #[.slice p F.length c,.int .i64 (k:Nat)] w fun e w'=>e=.returned (.int .i64 (kfF F k F.length:Nat))/\Up w w':=by
 unfold maxLen at hm;have HP:=Hd hp;have d6:=Hd hat;have HH:=Hd hH;have b8:=Hd hrow;have b7:=Hd ha;clear hp hat hH hrow ha
 go_in
 go_wp2
 go_loopw [1,5] (fun kv iv wr=>∃ i:Nat,i<=F.length/\iv=.int .i64 (i:Nat)/\kv=.int .i64 (kfF F k i:Nat)/\Up w wr) (fun _ iv _=>F.length - (intOf iv).toNat)
 case atStart=>exact⟨0,Jr _,rfl,by rw[L8],Je _ _⟩
 obtain⟨i,hi,rfl,rfl,hB⟩:=hrel;have HB:=Hd hB;have f9:=Ds (k:=k) b7.o i hi
 by_cases J:i<F.length
 ·obtain⟨g,rfl⟩:∃ g,p=some ⟨g,0,none⟩:=by
   rcases HP.o with h|h
   ·omega
   exact h
  have b4:i<A.length:=by omega
  have M:=d6.o g rfl i b4;obtain⟨d,G,E⟩:=HH.o g c rfl i J b4 J;obtain⟨pa,ca,hA,c8,e6,b6⟩:=b8.o i b4 J;have b9:=b7.o _ (Jo J);have Y:=Hd (L4 (k:=k) J);rw[hA] at M G;obtain⟨m,d1⟩:=Oa (F[i].args.length);rw[d1] at M G E c8 b6 b9 Y;obtain⟨k',b5⟩:=Oa (kfF F k i);rw[b5] at f9 Y d G E ⊢;have e8:0<k':=by rw[<-b5];unfold kfF;omega
  obtain⟨k2,K⟩:=Oa (k'+1+m);have e3:=Hd K;have e9:0<k2:=by omega
  have f8:k2<=1000000000000000:=by omega
  rw[K] at E;have I:=J5 w _ d;have e1:Hid (∀ W,Up w W->Calls prog 64 #[.slice pa m ca,.int .i64 ((k':Int)+1)] W fun e w'=>e=.returned (.int .i64 (k2:Nat))/\Up W w'):=fun W hW=>by
   rw[<-K];refine Q7 m (k'+1) pa ca W c8 e6 b9 (by omega) (by omega) ?_
   by_cases d2:m=0
   ·exact .inl d2
   rcases b6 with h|⟨ga,rfl⟩
   ·exact absurd h d2
   have hl:=J5 w _ (G ga ca rfl 0 (by omega));exact .inr ⟨ga,rfl,Jq hl hW.size,fun j hj=>(hW.cell (p:=⟨ga,j,none⟩) hl).trans (G ga ca rfl j hj)⟩
  obtain⟨X1,Z⟩:∃ X,Hs k'=X:=⟨_,rfl⟩;obtain⟨X2,a7⟩:∃ X,Hs k2=X:=⟨_,rfl⟩;have e4:Hid (∀ W,Calls prog 63 #[.int .i64 (k':Nat)] W fun e w'=>e=.returned (.string X1)/\Up W w'):=fun W=>by rw[<-Z];exact E6 k' W e8 (by omega)
  have e5:Hid (∀ W,Calls prog 63 #[.int .i64 (k2:Nat)] W fun e w'=>e=.returned (.string X2)/\Up W w'):=fun W=>by rw[<-a7];exact E6 k2 W e9 f8
  rw[Z] at d;rw[a7] at E;have g4:=Hd d;have e0:=Hd M;have d9:=Hd E;have k1:=(hB.cell (p:=⟨g,i*3,none⟩) I).trans d;have d3:=HB.o.size;have e7:g<wr.heap.size:=Jq I d3;clear K Z a7 b5 hA G d1 M d E hB b6
  go_wp2
  go_region_held3 (fun w'=>w'.cell? ⟨g,i*3,none⟩=some (.string X1))
   (first
     | go_keep
     | (rw[a8.cell (p:=⟨g,i*3,none⟩) e7];assumption))
   ((go_at_call 63;refine (e4.o _).mono ?_;rintro e w2 ⟨rfl,a8⟩))
  have U:Hid (Up w w2):=(HB.o.drew).trans (a8.mono d3);have a2:=(U.o.cell (p:=⟨g,i*3+1,none⟩) I).trans e0.o;clear a8 k1
  go_wp2_with fail
  refine (e1.o _ U.o).mono ?_;rintro e w3 ⟨rfl,c6⟩;have V:=U.up c6;have g0:=(V.o.cell (p:=⟨g,i*3+2,none⟩) I).trans d9.o;have O:=V.o.size;have d0:g<w3.heap.size:=Jq I O;have y3:decide ((k2:Int)<0)=false:=Jc (by omega);clear c6 a2
  go_wp2
  go_region_held3 (fun w'=>w'.cell? ⟨g,i*3+2,none⟩=some (.string X2))
   (first
     | go_keep
     | (rw[b3.cell (p:=⟨g,i*3+2,none⟩) d0];assumption))
   ((go_at_call 63;refine (e5.o _).mono ?_;rintro e w4 ⟨rfl,b3⟩))
  have d8:Hid (Up w w4):=(V.o.drew).trans (b3.mono O);clear b3 g0
  go_wp2
  go_roundw
  case rel=>
   have:=e3.o;exact⟨i+1,by omega,by go_num,by rw[Y.o,show k'+m+2=k2+1 by omega];go_num,d8.o⟩
  simp[intOf];omega
 obtain rfl:i=F.length:=by omega
 clear hB
 go_wp2
 go_ret
 exact⟨rfl,HB.o⟩
theorem YK (N0 N1 n k:Nat)(v:Value)(w:World)(h:Cd w N0 N1 3 1 v n)(hn:n<=1048576)(hk:k<=900000000000000) :
 Calls prog 54 #[v,.int .i64 (k:Nat)] w fun e w'=>e=.returned (.int .i64 (k+n:Nat))/\OnB (fun b=>v.ownBlock=some b) w w'/\∀ g c,v=.slice (some ⟨g,0,none⟩) n c->∀ j,j<n->w'.cell? ⟨g,j,none⟩=some (.int .i64 ((k+j:Nat):Int)):=by
 obtain⟨p,c,rfl,hc,hm,Y⟩:=h;unfold maxLen at hm;have Z:=Hd Y;clear Y
 go_in
 go_wp2
 go_loopw [1,5] (fun kv iv wr=>∃ i:Nat,i<=n/\iv=.int .i64 (i:Nat)/\kv=.int .i64 ((k+i:Nat):Int)/\OnB (fun b=>(Value.slice p n c).ownBlock=some b) w wr/\∀ g,p=some ⟨g,0,none⟩->∀ j,j<i->wr.cell? ⟨g,j,none⟩=some (.int .i64 ((k+j:Nat):Int))) (fun _ iv _=>n - (intOf iv).toNat)
 case atStart=>exact⟨0,Jr _,rfl,rfl,OnB.refl _ _,fun _ _ j hj=>absurd hj (J2 _)⟩
 obtain⟨i,hi,rfl,rfl,V,U⟩:=hrel;have J:=Hd V;have O:=Hd U;clear V U
 by_cases M:i<n
 ·obtain⟨g,rfl,G⟩:∃ g,p=some ⟨g,0,none⟩/\Xy w g 3 n:=by
   rcases Z.o with h|⟨g,e,_,_,h⟩
   ·omega
   exact⟨g,e,by simpa using h⟩
  have K:=Hd G;obtain⟨kk,d⟩:∃ kk:Nat,k+i=kk:=⟨_,rfl⟩;have a7:kk<=1000000000000000:=by omega
  have E:=Hd d;rw[d];have A:=J.o.sl _ _ _ K.o;obtain⟨x1,k1⟩:=A.cell M;have f1:=A.fz i;have I:=Hd k1;clear d G A
  go_wp2
  go_roundw
  case rel=>
   refine⟨i+1,by omega,by go_num,by have:=E.o;rw[show k+(i+1)=kk+1 by omega];go_num,J.o.set rfl i _,fun g' e j hj=>?_⟩
   cases e
   by_cases e:j=i
   ·subst e;rw[Ze _ _ _ I.o,E.o]
   rw[Yj _ _ _ _ (by intro h;apply e;injection h with _ h2;exact h2.symm)];exact O.o g rfl j (by omega)
  simp[intOf];omega
 obtain rfl:i=n:=by omega
 go_wp2
 go_ret
 refine⟨rfl,J.o,fun g c e j hj=>?_⟩
 cases e
 exact O.o g rfl j hj
def kfT (T:List Tm)(k i:Nat):Nat:=k+((T.take i).map (fun t=>t.kids.length+5)).sum
theorem My (T:List Tm)(k:Nat):kfT T k 0=k:=by simp[kfT]
theorem Mo (h:i<T.length):kfT T k (i+1)=kfT T k i+T[i].kids.length+5:=by
 unfold kfT;rw[List.take_add_one,Jd h,Option.toList_some,Yr,List.sum_append];simp only[Vh,Vt,List.sum_cons,List.sum_nil];omega
theorem L9 {T:List Tm}{k:Nat}(ha:∀ t∈T,t.kids.length<=1048576):∀ i,i<=T.length->kfT T k i<=k+i*1048581
 | 0,_=>by rw[My];omega
 | i+1,h=>by
   have:=L9 (k:=k) ha i (by omega)
   have:=ha _ (Jo (show i<T.length by omega))
   rw[Mo (by omega)]
   omega
def T1 (w:World)(v:Value)(n k:Nat):Prop:=∀ g c,v=.slice (some ⟨g,0,none⟩) n c->∀ j,j<n->w.cell? ⟨g,j,none⟩=some (.int .i64 ((k+j:Nat):Int))
theorem T1.on {P:Nat->Prop}(h:T1 w v n k)(ho:OnB P w w')(hn:∀ b,v.ownBlock=some b->¬ P b):T1 w' v n k:=fun g c e j hj=>ho.cell (h g c e j hj) (hn g (by rw[e];rfl))
structure TermsX (w:World)(N0 N1:Nat)(v:Value)(T:List Tm)(A:List Value):Prop where
 row:Cd w N0 N1 55 6 v T.length
 len:A.length=T.length
 at':∀ g c,v=.slice (some ⟨g,0,none⟩) T.length c->∀ i (h:i<A.length),w.cell? ⟨g,i*6+5,none⟩=some A[i]
 rows:∀ i (h:i<A.length) (h':i<T.length),Cd w N0 N1 3 1 A[i] T[i].kids.length/\∀ b,A[i].ownBlock=some b->∃ n,Xy w b 3 n
 apart:∀ i j (hi:i<A.length) (hj:j<A.length),i<j->∀ b,A[i].ownBlock=some b->A[j].ownBlock≠some b
 kind:∀ b,v.ownBlock=some b->∃ n,Xy w b 55 n
def Q0 (w:World)(v:Value)(T:List Tm)(A:List Value)(k m:Nat):Prop:=
 ∀ g c,v=.slice (some ⟨g,0,none⟩) T.length c->∀ i (h:i<T.length) (h':i<A.length),i<m->w.cell? ⟨g,i*6,none⟩=some (.int .i64 (kfT T k i:Nat))/\w.cell? ⟨g,i*6+1,none⟩=some (.string (Hs (kfT T k i+1)))/\w.cell? ⟨g,i*6+2,none⟩=some (.string (Hs (kfT T k i+2)))/\w.cell? ⟨g,i*6+3,none⟩=some (.int .i64 (kfT T k i+3:Nat))/\w.cell? ⟨g,i*6+4,none⟩=some (.int .i64 (kfT T k i+4:Nat))/\T1 w A[i] T[i].kids.length (kfT T k i+5)
theorem Q0.next {c:Nat}(hv:v=.slice (some ⟨g,0,none⟩) T.length c)(h:Q0 w v T A k i)
 (hc:∀ q x,(q<i*6∨i*6+5<=q)->w.cell? ⟨g,q,none⟩=some x->w'.cell? ⟨g,q,none⟩=some x)
 (hr:∀ j (hj:j<A.length) (hj':j<T.length),j<i->T1 w A[j] T[j].kids.length (kfT T k j+5)->T1 w' A[j] T[j].kids.length (kfT T k j+5))
 (hn:∀ (hi:i<T.length) (hi':i<A.length),w'.cell? ⟨g,i*6,none⟩=some (.int .i64 (kfT T k i:Nat))/\w'.cell? ⟨g,i*6+1,none⟩=some (.string (Hs (kfT T k i+1)))/\w'.cell? ⟨g,i*6+2,none⟩=some (.string (Hs (kfT T k i+2)))/\w'.cell? ⟨g,i*6+3,none⟩=some (.int .i64 (kfT T k i+3:Nat))/\w'.cell? ⟨g,i*6+4,none⟩=some (.int .i64 (kfT T k i+4:Nat))/\T1 w' A[i] T[i].kids.length (kfT T k i+5)):Q0 w' v T A k (i+1):=by
 intro J I e j hj hj' G;rw[hv] at e
 cases e
 by_cases e:j=i
 ·subst e;exact hn hj hj'
 obtain⟨d,E,h2,h3,h4,h5⟩:=h g c hv j hj hj' (by omega);exact⟨hc _ _ (by omega) d,hc _ _ (by omega) E,hc _ _ (by omega) h2,hc _ _ (by omega) h3,hc _ _ (by omega) h4,hr j hj' hj (by omega) h5⟩
theorem S8 (N0 N1 k:Nat)(v:Value)(F:List Tm)(A:List Value)(w:World)(h:TermsX w N0 N1 v F A)(hn:F.length<=1048576)(ha:∀ f∈F,f.kids.length<=1048576)(h0:0<k)(hk:k<=10000000000000) :
 Calls prog 44 #[v,.int .i64 (k:Nat)] w fun e w'=>e=.returned (.int .i64 (kfT F k F.length:Nat))/\OnB (PF v A) w w'/\Q0 w' v F A k F.length/\∀ g c,v=.slice (some ⟨g,0,none⟩) F.length c->∀ i (h:i<A.length),w'.cell? ⟨g,i*6+5,none⟩=some A[i]:=by
 have HX:=Hd h;obtain⟨⟨p,c,rfl,hc,hm,hg⟩,j8,-,-,-,-⟩:=h;unfold maxLen at hm;have HG:=Hd hg;have d8:=Hd ha;clear hg ha
 go_in
 go_wp2
 go_loopw [1,5] (fun kv iv wr=>∃ i:Nat,i<=F.length/\iv=.int .i64 (i:Nat)/\kv=.int .i64 (kfT F k i:Nat)/\OnB (PF (.slice p F.length c) A) w wr/\Q0 wr (.slice p F.length c) F A k i/\∀ g,p=some ⟨g,0,none⟩->∀ j (h:j<A.length),wr.cell? ⟨g,j*6+5,none⟩=some A[j]) (fun _ iv _=>F.length - (intOf iv).toNat)
 case atStart=>exact⟨0,Jr _,rfl,by rw[My],OnB.refl _ _,fun _ _ _ _ _ _ h=>absurd h (J2 _),fun g e j hj=>HX.o.at' g c (by rw[e]) j hj⟩
 obtain⟨i,hi,rfl,rfl,hM,hH,hC⟩:=hrel;have HM:=Hd hM;have HH:=Hd hH;have HC:=Hd hC;clear hM hH hC;have j2:=L9 (k:=k) d8.o i hi
 by_cases U:i<F.length
 ·obtain⟨g,rfl,J⟩:∃ g,p=some ⟨g,0,none⟩/\Xy w g 55 (F.length*6):=by
   rcases HG.o with h|⟨g,e,_,_,h⟩
   ·omega
   exact⟨g,e,h⟩
  have K:=Hd J;have I:i<A.length:=by omega
  have d6:=HC.o g rfl i I;have V:=(HX.o.rows i I U).1;have e7:=d8.o _ (Jo U);have a8:=Hd (Mo (k:=k) U);obtain⟨m,d0⟩:=Oa (F[i].kids.length);obtain⟨a,G⟩:=Oa (A[i]);have h6:=Hd d0;have d7:=Hd G;rw[d0] at V e7 a8;rw[G] at d6 V;have g2:Hid (a∈A):=by unfold Hid;rw[<-G];exact Jo I
  have i6:=Hd V;have g7:Hid (∀ b,a.ownBlock=some b->b≠g):=fun b hb=>by
   obtain⟨n,hs⟩:=(HX.o.rows i I U).2 b (by rw[G];exact hb);exact Re hs J (by decide)
  obtain⟨k',O⟩:=Oa (kfT F k i);have g8:=Hd O;rw[O] at j2 a8 ⊢;have l1:0<k':=by rw[<-O];unfold kfT;omega
  have l2:k'<=100000000000000:=by omega
  obtain⟨pa,ca,rfl,-,-,-⟩:=V;have e0:Hid (∀ W,Cd W N0 N1 3 1 (.slice pa m ca) m->Calls prog 54 #[.slice pa m ca,.int .i64 ((k':Int)+5)] W fun e w'=>e=.returned (.int .i64 (k'+5+m:Nat))/\OnB (fun b=>(Value.slice pa m ca).ownBlock=some b) W w'/\T1 w' (.slice pa m ca) m (k'+5)):=fun W hW=>YK N0 N1 m (k'+5) _ W hW e7 (by omega);obtain⟨X1,b9⟩:∃ X,Hs (k'+1)=X:=⟨_,rfl⟩;have i7:=Hd b9;obtain⟨X2,c6⟩:∃ X,Hs (k'+2)=X:=⟨_,rfl⟩;have i8:=Hd c6;have e3:Hid (∀ W,Calls prog 63 #[.int .i64 ((k':Int)+1)] W fun e w'=>e=.returned (.string X1)/\Up W w'):=fun W=>by rw[<-b9];exact E6 (k'+1) W (by omega) (by omega)
  have e4:Hid (∀ W,Calls prog 63 #[.int .i64 ((k':Int)+2)] W fun e w'=>e=.returned (.string X2)/\Up W w'):=fun W=>by rw[<-c6];exact E6 (k'+2) W (by omega) (by omega)
  have d1:=HM.o.sl _ _ _ J;obtain⟨x0,c0⟩:=d1.cell (i:=i*6) (by omega);have f0:=d1.fz (i*6);have g5:=Hd c0;have b3:=Hd (HM.o.set (.inl rfl) (i*6) (.int .i64 (k':Nat)));have e8:=(b3.o.sl _ _ _ J).lt;have d9:=Hd d6;have q1:((k':Int)+1)+1=(k':Int)+2:=by omega
  have q2:((k':Int)+2)+1=(k':Int)+3:=by omega
  have q3:((k':Int)+3)+1=(k':Int)+4:=by omega
  have q4:((k':Int)+4)+1=(k':Int)+5:=by omega
  clear J b9 c6 O G d0 d6 d1
  go_wp2_with fail
  refine (e3.o _).mono ?_;rintro e w2 ⟨rfl,hb2⟩;have b6:=b3.o.bl hb2;have d5:=b6.sl _ _ _ K.o;obtain⟨x1,c1⟩:=d5.cell (i:=i*6+1) (by omega);have f1:=d5.fz (i*6+1);have g6:=Hd c1;have Y:=Hd hb2;have b4:=Hd (b6.set (.inl rfl) (i*6+1) (.string X1));have c8:=(b4.o.sl _ _ _ K.o).lt;clear hb2 b6 d5 c0 f0
  go_wp2_with fail
  refine (e4.o _).mono ?_;rintro e w3 ⟨rfl,E⟩;have b7:=b4.o.bl E;have d:=b7.sl _ _ _ K.o;obtain⟨x2,c2⟩:=d.cell (i:=i*6+2) (by omega);have f2:=d.fz (i*6+2);obtain⟨x3,c3⟩:=d.cell (i:=i*6+3) (by omega);have f3:=d.fz (i*6+3);obtain⟨x4,c4⟩:=d.cell (i:=i*6+4) (by omega);have f4:=d.fz (i*6+4);have Z:=Hd (And.intro c2 (And.intro c3 c4));have g3:=Hd E
  have a7:Hid (∀ q x,q≠i*6->q≠i*6+1->wr.cell? ⟨g,q,none⟩=some x->w3.cell? ⟨g,q,none⟩=some x):=fun q x h0 h1 hx=>(E.cell (p:=⟨g,q,none⟩) c8).trans ((Yj _ _ _ _ (Hi (Ne.symm h1))).trans ((Y.o.cell (p:=⟨g,q,none⟩) e8).trans ((Yj _ _ _ _ (Hi (Ne.symm h0))).trans hx)));have h8:Hid (w3.cell? ⟨g,i*6,none⟩=some (.int .i64 (k':Nat))):=(E.cell (p:=⟨g,i*6,none⟩) c8).trans ((Yj _ _ _ _ (Hi (by omega))).trans ((Y.o.cell (p:=⟨g,i*6,none⟩) e8).trans (Ze _ _ _ g5.o)));have h9:Hid (w3.cell? ⟨g,i*6+1,none⟩=some (.string X1)):=(E.cell (p:=⟨g,i*6+1,none⟩) c8).trans (Ze _ _ _ g6.o);have c5:=a7.o _ _ (by omega) (by omega) d9.o;have b5:=Hd (((b7.set (.inl rfl) (i*6+2) (.string X2)).set (.inl rfl) (i*6+3) (.int .i64 ((k':Int)+3))).set (.inl rfl) (i*6+4) (.int .i64 ((k':Int)+4)));clear E b7 d c1 f1
  go_wp2_with fail
  refine (e0.o _ (i6.o.mk b5.o.sl)).mono ?_;rintro e w4 ⟨rfl,b8,e9⟩;have e1:=Hd b8;have i1:=Hd e9;have h7:Hid (OnB (PF (.slice (some ⟨g,0,none⟩) F.length c) A) w w4):=b5.o.trans (b8.mono (fun b hb=>.inr ⟨_,g2.o,hb⟩));clear b8 e9 b4 b5 c2 c3 c4 c5 f2 f3 f4 e0 e3 e4 b3
  go_wp2
  go_roundw
  case rel=>
   obtain⟨d2,d3,d4⟩:=Z.o;have M:∀ q x,(((w3.setCell ⟨g,i*6+2,none⟩ (.string X2)).setCell ⟨g,i*6+3,none⟩ (.int .i64 ((k':Int)+3))).setCell ⟨g,i*6+4,none⟩ (.int .i64 ((k':Int)+4))).cell? ⟨g,q,none⟩=some x->w4.cell? ⟨g,q,none⟩=some x:=fun q x hx=>e1.o.cell hx (fun hb=>g7.o g hb rfl);have h3:∀ q x,q≠i*6+2->q≠i*6+3->q≠i*6+4->w3.cell? ⟨g,q,none⟩=some x->w4.cell? ⟨g,q,none⟩=some x:=fun q x h2 h3 h4 hx=>M q x ((Yj _ _ _ _ (Hi (Ne.symm h4))).trans ((Yj _ _ _ _ (Hi (Ne.symm h3))).trans ((Yj _ _ _ _ (Hi (Ne.symm h2))).trans hx)));have hO:OnB (fun b=>b=g∨(Value.slice pa m ca).ownBlock=some b) wr w4:=
    (((((((((OnB.refl _ wr).set (.inl rfl) (i*6) (.int .i64 (k':Nat))).bl Y.o).set (.inl rfl) (i*6+1) (.string X1)).bl g3.o).set (.inl rfl) (i*6+2) (.string X2)).set (.inl rfl) (i*6+3) (.int .i64 ((k':Int)+3))).set (.inl rfl) (i*6+4) (.int .i64 ((k':Int)+4))).trans (e1.o.mono (fun b hb=>.inr hb)))
   refine⟨i+1,by omega,by go_num,?_,h7.o,Q0.next rfl HH.o ?_ ?_ ?_,fun g' e j hj=>?_⟩
   ·rw[a8.o,show k'+m+5=k'+5+m by omega];go_num
   ·intro q x hq hx;exact h3 q x (by omega) (by omega) (by omega) (a7.o q x (by omega) (by omega) hx)
   ·intro j hj j0 j1 hR;refine hR.on hO fun b hb=>?_;rintro (rfl|hb2)
    ·obtain⟨n,hs⟩:=(HX.o.rows j hj j0).2 b hb;exact Re hs K.o (by decide) rfl
    exact HX.o.apart j i hj I j1 b hb (by rw[d7.o];exact hb2)
   ·intro _ _;rw[g8.o,d7.o,h6.o,i7.o,i8.o];refine⟨h3 _ _ (by omega) (by omega) (by omega) h8.o,h3 _ _ (by omega) (by omega) (by omega) h9.o,M _ _ ?_,M _ _ ?_,M _ _ ?_,i1.o⟩
    ·exact (Yj _ _ _ _ (Hi (by omega))).trans ((Yj _ _ _ _ (Hi (by omega))).trans (Ze _ _ _ d2))
    ·exact (Yj _ _ _ _ (Hi (by omega))).trans (Ze _ _ _ ((Yj _ _ _ _ (Hi (by omega))).trans d3))
    exact Ze _ _ _ ((Yj _ _ _ _ (Hi (by omega))).trans ((Yj _ _ _ _ (Hi (by omega))).trans d4))
   cases e
   exact h3 _ _ (by omega) (by omega) (by omega) (a7.o _ _ (by omega) (by omega) (HC.o g rfl j hj))
  simp[intOf];omega
 obtain rfl:i=F.length:=by omega
 go_wp2
 go_ret
 refine⟨rfl,HM.o,HH.o,fun g c e j hj=>?_⟩
 cases e
 exact HC.o g rfl j hj
theorem S0 (k:Nat)(p:Option Addr)(c:Nat)(F:List Tm)(A:List Value)(w:World)(hc:F.length<=c)(hm:c<=maxLen)(hn:F.length<=1048576)(ha:∀ f∈F,f.kids.length<=1048576)(h0:0<k)(hk:k<=10000000000000)(hlen:A.length=F.length)
 (hp:F.length=0∨∃ g,p=some ⟨g,0,none⟩) (hat:∀ g,p=some ⟨g,0,none⟩->∀ i (h:i<A.length),w.cell? ⟨g,i*6+5,none⟩=some A[i]) (hH:Q0 w (.slice p F.length c) F A k F.length)
 (hrow:∀ i (h:i<A.length) (h':i<F.length),∃ pa ca,A[i]=.slice pa F[i].kids.length ca/\F[i].kids.length<=ca/\ca<=maxLen/\(F[i].kids.length=0∨∃ g,pa=some ⟨g,0,none⟩)) :
 Calls prog 66 #[.slice p F.length c,.int .i64 (k:Nat)] w fun e w'=>e=.returned (.int .i64 (kfT F k F.length:Nat))/\Up w w':=by
 unfold maxLen at hm;have HP:=Hd hp;have e1:=Hd hat;have HH:=Hd hH;have d1:=Hd hrow;have d0:=Hd ha;clear hp hat hH hrow ha
 go_in
 go_wp2
 go_loopw [1,5] (fun kv iv wr=>∃ i:Nat,i<=F.length/\iv=.int .i64 (i:Nat)/\kv=.int .i64 (kfT F k i:Nat)/\Up w wr) (fun _ iv _=>F.length - (intOf iv).toNat)
 case atStart=>exact⟨0,Jr _,rfl,by rw[My],Je _ _⟩
 obtain⟨i,hi,rfl,rfl,hB⟩:=hrel;have HB:=Hd hB;have g3:=L9 (k:=k) d0.o i hi
 by_cases I:i<F.length
 ·obtain⟨g,rfl⟩:∃ g,p=some ⟨g,0,none⟩:=by
   rcases HP.o with h|h
   ·omega
   exact h
  have b8:i<A.length:=by omega
  have O:=e1.o g rfl i b8;obtain⟨J,K,M,b6,b7,E⟩:=HH.o g c rfl i I b8 I;obtain⟨pa,ca,hA,d5,g1,c8⟩:=d1.o i b8 I;have d3:=d0.o _ (Jo I);have a7:=Hd (Mo (k:=k) I);rw[hA] at O E;obtain⟨m,d7⟩:=Oa (F[i].kids.length);rw[d7] at O E d5 c8 d3 a7;obtain⟨k',b9⟩:=Oa (kfT F k i);rw[b9] at g3 a7 J K M b6 b7 E ⊢;have h1:0<k':=by rw[<-b9];unfold kfT;omega
  have h6:k'<=100000000000000:=by omega
  have d:=J5 w _ J;have e9:Hid (∀ W,Up w W->Calls prog 80 #[.slice pa m ca,.int .i64 ((k':Int)+5)] W fun e w'=>e=.returned (.int .i64 (k'+5+m:Nat))/\Up W w'):=fun W hW=>by
   refine Sj m (k'+5) pa ca W d5 g1 d3 (by omega) ?_
   by_cases d8:m=0
   ·exact .inl d8
   rcases c8 with h|⟨ga,rfl⟩
   ·exact absurd h d8
   have hl:=J5 w _ (E ga ca rfl 0 (by omega));exact .inr ⟨ga,rfl,fun j hj=>(hW.cell (p:=⟨ga,j,none⟩) hl).trans (E ga ca rfl j hj)⟩
  obtain⟨X1,a8⟩:∃ X,Hs (k'+1)=X:=⟨_,rfl⟩;obtain⟨X2,b3⟩:∃ X,Hs (k'+2)=X:=⟨_,rfl⟩;have f9:Hid (∀ W,Calls prog 63 #[.int .i64 ((k':Int)+1)] W fun e w'=>e=.returned (.string X1)/\Up W w'):=fun W=>by rw[<-a8];exact E6 (k'+1) W (by omega) (by omega)
  have g0:Hid (∀ W,Calls prog 63 #[.int .i64 ((k':Int)+2)] W fun e w'=>e=.returned (.string X2)/\Up W w'):=fun W=>by rw[<-b3];exact E6 (k'+2) W (by omega) (by omega)
  rw[a8] at K;rw[b3] at M;have U:w.cell? ⟨g,i*6+3,none⟩=some (.int .i64 ((k':Int)+3)):=b6;have V:w.cell? ⟨g,i*6+4,none⟩=some (.int .i64 ((k':Int)+4)):=b7;have e5:=Hd M;have e6:=Hd U;have e7:=Hd V;have e8:=Hd O;have k0:=(hB.cell (p:=⟨g,i*6,none⟩) d).trans J;have k1:=(hB.cell (p:=⟨g,i*6+1,none⟩) d).trans K;have d9:=HB.o.size;have g2:g<wr.heap.size:=Jq d d9;have q1:((k':Int)+1)+1=(k':Int)+2:=by omega
  have q2:((k':Int)+2)+1=(k':Int)+3:=by omega
  have q3:((k':Int)+3)+1=(k':Int)+4:=by omega
  have q4:((k':Int)+4)+1=(k':Int)+5:=by omega
  clear a8 b3 b9 hA E d7 O J K M b6 b7 U V hB c8
  go_wp2
  go_region_held3 (fun w'=>w'.cell? ⟨g,i*6+1,none⟩=some (.string X1))
   (first
     | go_keep
     | (rw[b4.cell (p:=⟨g,i*6+1,none⟩) g2];assumption))
   ((go_at_call 63;refine (f9.o _).mono ?_;rintro e w2 ⟨rfl,b4⟩))
  have Z:Hid (Up w w2):=(HB.o.drew).trans (b4.mono d9);have k2:=(Z.o.cell (p:=⟨g,i*6+2,none⟩) d).trans e5.o;have Y:=Z.o.size;have d6:g<w2.heap.size:=Jq d Y;clear b4 k0 k1
  go_wp2
  go_region_held3 (fun w'=>w'.cell? ⟨g,i*6+2,none⟩=some (.string X2))
   (first
     | go_keep
     | (rw[b5.cell (p:=⟨g,i*6+2,none⟩) d6];assumption))
   ((go_at_call 63;refine (g0.o _).mono ?_;rintro e w3 ⟨rfl,b5⟩))
  have G:Hid (Up w w3):=(Z.o.drew).trans (b5.mono Y);have k3:=(G.o.cell (p:=⟨g,i*6+3,none⟩) d).trans e6.o;have k4:=(G.o.cell (p:=⟨g,i*6+4,none⟩) d).trans e7.o;have k5:=(G.o.cell (p:=⟨g,i*6+5,none⟩) d).trans e8.o;clear b5 k2
  go_wp2_with fail
  refine (e9.o _ G.o).mono ?_;rintro e w4 ⟨rfl,d4⟩;have e4:=G.up d4;obtain⟨k6,c6⟩:=Oa (k'+5+m);have f8:=Hd c6;rw[c6];have y6:decide ((k6:Int)<0)=false:=Jc (by omega);clear d4 c6 k3 k4 k5
  go_wp2
  go_roundw
  case rel=>
   have:=f8.o;exact⟨i+1,by omega,by go_num,by rw[a7.o,show k'+m+5=k6 by omega],e4.o⟩
  simp[intOf];omega
 obtain rfl:i=F.length:=by omega
 clear hB
 go_wp2
 go_ret
 exact⟨rfl,HB.o⟩
theorem FunsX.on {P:Nat->Prop}(h:FunsX w N0 N1 v F A)(ho:OnB P w w')(hn:∀ b,v.ownBlock=some b->¬ P b):FunsX w' N0 N1 v F A:=
 ⟨h.row.mk ho.sl,h.len,fun g c e i hi=>ho.cell (h.at' g c e i hi) (hn g (by rw[e];rfl)),fun i hi hi'=>⟨(h.rows i hi hi').1.mk ho.sl,fun b hb=>by obtain⟨n,d⟩:=(h.rows i hi hi').2 b hb;exact⟨n,ho.sl _ _ _ d⟩⟩,h.apart,fun b hb=>by obtain⟨n,d⟩:=h.kind b hb;exact⟨n,ho.sl _ _ _ d⟩⟩
theorem TermsX.on {P:Nat->Prop}(h:TermsX w N0 N1 v T A)(ho:OnB P w w')(hn:∀ b,v.ownBlock=some b->¬ P b):TermsX w' N0 N1 v T A:=
 ⟨h.row.mk ho.sl,h.len,fun g c e i hi=>ho.cell (h.at' g c e i hi) (hn g (by rw[e];rfl)),fun i hi hi'=>⟨(h.rows i hi hi').1.mk ho.sl,fun b hb=>by obtain⟨n,d⟩:=(h.rows i hi hi').2 b hb;exact⟨n,ho.sl _ _ _ d⟩⟩,h.apart,fun b hb=>by obtain⟨n,d⟩:=h.kind b hb;exact⟨n,ho.sl _ _ _ d⟩⟩
structure BankX (w:World)(N0 N1:Nat)(vs vf vt:Value)(S:List (List UInt8))(F:List Fn)(T:List Tm)(A B:List Value):Prop where
 s:Cd w N0 N1 9 1 vs S.length
 sk:∀ b,vs.ownBlock=some b->∃ n,Xy w b 9 n
 f:FunsX w N0 N1 vf F A
 t:TermsX w N0 N1 vt T B
 sa:∀ b,vs.ownBlock=some b->∀ a∈A,a.ownBlock≠some b
def PB (vs vf vt:Value)(A B:List Value)(b:Nat):Prop:=vs.ownBlock=some b∨PF vf A b∨PF vt B b
structure HeldB (w:World)(vs vf vt:Value)(S:List (List UInt8))(F:List Fn)(T:List Tm)(A B:List Value):Prop where
 s:Fw w vs S.length 1
 f:Qj w vf F A (1+S.length) F.length
 fa:∀ g c,vf=.slice (some ⟨g,0,none⟩) F.length c->∀ i (h:i<A.length),w.cell? ⟨g,i*3+1,none⟩=some A[i]
 t:Q0 w vt T B (kfF F (1+S.length) F.length) T.length
 ta:∀ g c,vt=.slice (some ⟨g,0,none⟩) T.length c->∀ i (h:i<B.length),w.cell? ⟨g,i*6+5,none⟩=some B[i]
def kB (S:List (List UInt8))(F:List Fn)(T:List Tm):Nat:=kfT T (kfF F (1+S.length) F.length) T.length
theorem FunsX.blk (h:FunsX w N0 N1 v F A)(hb:PF v A b):(∃ n,Xy w b 45 n)∨(∃ n,Xy w b 9 n):=by
 rcases hb with hb|⟨a,ha,hb⟩
 ·exact .inl (h.kind b hb)
 obtain⟨i,d,rfl⟩:=J6 ha;exact .inr ((h.rows i d (by have:=h.len;omega)).2 b hb)
theorem TermsX.blk (h:TermsX w N0 N1 v T A)(hb:PF v A b):(∃ n,Xy w b 55 n)∨(∃ n,Xy w b 3 n):=by
 rcases hb with hb|⟨a,ha,hb⟩
 ·exact .inl (h.kind b hb)
 obtain⟨i,d,rfl⟩:=J6 ha;exact .inr ((h.rows i d (by have:=h.len;omega)).2 b hb)
theorem Qj.on {P:Nat->Prop}{m:Nat}(h:Qj w v F A k m)(ho:OnB P w w')(hn:∀ b,PF v A b->¬ P b):Qj w' v F A k m:=fun g c e i hi hi' him=>by
 obtain⟨j,E,h2⟩:=h g c e i hi hi' him
 have d:=hn g (.inl (by rw[e];rfl))
 exact⟨ho.cell j d,E.on ho (fun b hb=>hn b (.inr ⟨_,Jo hi',hb⟩)),ho.cell h2 d⟩
theorem Q0.on {P:Nat->Prop}{m:Nat}(h:Q0 w v T A k m)(ho:OnB P w w')(hn:∀ b,PF v A b->¬ P b):Q0 w' v T A k m:=fun g c e i hi hi' him=>by
 obtain⟨j,E,h2,h3,h4,h5⟩:=h g c e i hi hi' him
 have d:=hn g (.inl (by rw[e];rfl))
 exact⟨ho.cell j d,ho.cell E d,ho.cell h2 d,ho.cell h3 d,ho.cell h4 d,h5.on ho (fun b hb=>hn b (.inr ⟨_,Jo hi',hb⟩))⟩
theorem HeldB.on {P:Nat->Prop}(h:HeldB w vs vf vt S F T A B)(ho:OnB P w w')(hn:∀ b,PB vs vf vt A B b->¬ P b):HeldB w' vs vf vt S F T A B:=
 ⟨h.s.on ho (fun b hb=>hn b (.inl hb)),h.f.on ho (fun b hb=>hn b (.inr (.inl hb))),fun g c e i hi=>ho.cell (h.fa g c e i hi) (hn g (.inr (.inl (.inl (by rw[e];rfl))))),h.t.on ho (fun b hb=>hn b (.inr (.inr hb))),fun g c e i hi=>ho.cell (h.ta g c e i hi) (hn g (.inr (.inr (.inl (by rw[e];rfl)))))⟩
theorem OnB.bx {P:Nat->Prop}(h:OnB P w w'){l:List Value}(hx:Bx w g l)(hg:¬ P g):Bx w' g l:=by
 have:=hx.lt;obtain⟨d,hx⟩:=hx;exact⟨d,(h.block g this hg).trans hx⟩
theorem Fy (N0 N1:Nat)(w:World)(h:BankX w N0 N1 vs vf vt S F T A B)(hs:SmallB S F T) :
 Calls prog 12 #[.agg #[vs,vf,vt],.int .i64 1] w fun e w'=>e=.returned (.int .i64 (kB S F T:Nat))/\OnB (PB vs vf vt A B) w w'/\HeldB w' vs vf vt S F T A B:=by
 obtain⟨hS,b5,hF,hT,e0⟩:=h;have G:Hid (OnB (fun _=>False) w (w.alloc (.cells #[vs,vf,vt] 31))):=(OnB.refl _ w).bl (Oz _ _);have M:=Oi w [vs,vf,vt] 31;have d2:=Hd M;have HS:=Hd (hS.mk G.o.sl);have HF:=Hd (hF.on G.o (fun _ _ h=>h));have HT:=Hd (hT.on G.o (fun _ _ h=>h));have O:Hid (∀ b,vs.ownBlock=some b->∃ n,Xy (w.alloc (.cells #[vs,vf,vt] 31)) b 9 n):=fun b hb=>by obtain⟨n,hs⟩:=b5 b hb;exact⟨n,G.o.sl _ _ _ hs⟩
 have f9:=Hd e0
 have c6:Hid (∀ b,PB vs vf vt A B b->b<w.heap.size):=fun b hb=>by
  rcases hb with hb|hb|hb
  ·obtain⟨n,hs⟩:=b5 b hb;exact hs.lt
  ·rcases hF.blk hb with⟨n,hs⟩|⟨n,hs⟩<;>exact hs.lt
  rcases hT.blk hb with⟨n,hs⟩|⟨n,hs⟩<;>exact hs.lt
 have g5:=hs.s.1;have g6:=hs.f.1;have g7:=hs.t.1;have b7:Hid (∀ f∈F,f.args.length<=1048576):=fun f hf=>(hs.f.2 f hf).2.1.1;have e1:Hid (∀ t∈T,t.kids.length<=1048576):=fun t ht=>(hs.t.2 t ht).2.2;obtain⟨a1,c1,rfl,-,-,-⟩:=hS;obtain⟨⟨a2,c2,rfl,-,-,-⟩,-,-,-,-,-⟩:=hF;obtain⟨⟨a3,c3,rfl,-,-,-⟩,-,-,-,-,-⟩:=hT;obtain⟨b0,b1,b2⟩:=(show _/\_/\_ from ⟨M.cell 0,M.cell 1,M.cell 2⟩);clear M hs b5 e0
 go_in
 go_wp2_with fail
 refine (I1 N0 N1 S.length 1 _ _ HS.o g5 (by decide) (by decide)).mono ?_;rintro e w2 ⟨rfl,E,d7⟩;have e7:Hid (OnB (PB (.slice a1 S.length c1) (.slice a2 F.length c2) (.slice a3 T.length c3) A B) w w2):=(G.o.mono (fun _ h=>h.elim)).trans (E.mono (fun b hb=>.inl hb));have c8:=Hd d7;have U:=Hd (E.bx d2.o (fun hb=>by have:=c6.o _ (.inl hb);omega));have I:=Hd (HF.o.on E (fun b hb hb2=>by
  obtain⟨n,hs⟩:=HF.o.kind b hb;obtain⟨n',d⟩:=O.o b hb2;exact Re hs d (by decide) rfl))
 have a7:=Hd (HT.o.on E (fun b hb hb2=>by
  obtain⟨n,hs⟩:=HT.o.kind b hb;obtain⟨n',d⟩:=O.o b hb2;exact Re hs d (by decide) rfl))
 have J:Hid (∀ b,(Value.slice a1 S.length c1).ownBlock=some b->∃ n,Xy w2 b 9 n):=fun b hb=>by obtain⟨n,hs⟩:=O.o b hb;exact⟨n,E.sl _ _ _ hs⟩
 obtain⟨k2,b3⟩:=Oa (1+S.length);have Z:=Hd b3;have Y:0<k2/\k2<=100000000:=by omega
 rw[b3];have b1:=U.o.cell 1;have b2:=U.o.cell 2;clear E d7 b3 O HF HT d2 HS
 go_wp2_with fail
 refine (YU N0 N1 k2 _ F A _ I.o g6 b7.o Y.1 Y.2).mono ?_;rintro e w3 ⟨rfl,j,d5,d3⟩;have e8:Hid (OnB (PB (.slice a1 S.length c1) (.slice a2 F.length c2) (.slice a3 T.length c3) A B) w w3):=e7.o.trans (j.mono (fun b hb=>.inr (.inl hb)));have e5:=Hd d5;have e3:=Hd d3;have g1:=Hd (j.bx U.o (fun hb=>by have:=c6.o _ (.inr (.inl hb));omega));have f8:Hid (Fw w3 (.slice a1 S.length c1) S.length 1):=Fw.on c8.o j (fun b hb hb2=>by
  rcases hb2 with hb2|⟨a,ha,hb2⟩
  ·obtain⟨n,hs⟩:=I.o.kind b hb2;obtain⟨n',d⟩:=J.o b hb;exact Re hs d (by decide) rfl
  exact f9.o b hb a ha hb2)
 have d1:=Hd (a7.o.on j (fun b hb hb2=>by
  obtain⟨n,hs⟩:=a7.o.kind b hb
  rcases I.o.blk hb2 with⟨n',d⟩|⟨n',d⟩
  ·exact Re hs d (by decide) rfl
  exact Re hs d (by decide) rfl))
 have d0:Hid (∀ b,(Value.slice a1 S.length c1).ownBlock=some b->∃ n,Xy w3 b 9 n):=fun b hb=>by obtain⟨n,hs⟩:=J.o b hb;exact⟨n,j.sl _ _ _ hs⟩
 have b8:Hid (∀ b,PF (.slice a2 F.length c2) A b->(∃ n,Xy w3 b 45 n)∨(∃ n,Xy w3 b 9 n)):=fun b hb=>by
  rcases I.o.blk hb with⟨n,hs⟩|⟨n,hs⟩
  ·exact .inl ⟨n,j.sl _ _ _ hs⟩
  exact .inr ⟨n,j.sl _ _ _ hs⟩
 have g4:=Ds (k:=k2) b7.o F.length leR;obtain⟨k3,V⟩:=Oa (kfF F k2 F.length);have b9:=Hd V;have d8:0<k3:=by rw[<-V];unfold kfF;omega
 rw[V] at g4 ⊢;have d9:k3<=10000000000000:=by omega
 have b2:=g1.o.cell 2;clear j d5 d3 V J I a7 c8 U
 go_wp2_with fail
 refine (S8 N0 N1 k3 _ T B _ d1.o g7 e1.o d8 d9).mono ?_;rintro e w4 ⟨rfl,K,d6,d4⟩;have e9:Hid (OnB (PB (.slice a1 S.length c1) (.slice a2 F.length c2) (.slice a3 T.length c3) A B) w w4):=e8.o.trans (K.mono (fun b hb=>.inr (.inr hb)));have b4:∀ b,PF (.slice a3 T.length c3) B b->(∃ n,Xy w3 b 55 n)∨(∃ n,Xy w3 b 3 n):=fun b hb=>d1.o.blk hb;have a8:∀ b,PF (.slice a2 F.length c2) A b->¬ PF (.slice a3 T.length c3) B b:=fun b hb hb2=>by rcases b8.o b hb with⟨n,hs⟩|⟨n,hs⟩<;>rcases b4 b hb2 with⟨n',d⟩|⟨n',d⟩<;>exact Re hs d (by decide) rfl
 have HE:Hid (HeldB w4 (.slice a1 S.length c1) (.slice a2 F.length c2) (.slice a3 T.length c3) S F T A B):=by
  refine⟨f8.o.on K (fun b hb hb2=>?_),?_,fun g c e i hi=>K.cell (e3.o g c e i hi) (a8 g (.inl (by rw[e];rfl))),?_,d4⟩
  ·obtain⟨n,hs⟩:=d0.o b hb
   rcases b4 b hb2 with⟨n',d⟩|⟨n',d⟩<;>exact Re hs d (by decide) rfl
  ·rw[Z.o];exact e5.o.on K a8
  rw[Z.o,b9.o];exact d6
 have e6:Hid (kB S F T=kfT T k3 T.length):=by unfold Hid kB;rw[Z.o,b9.o]
 clear K d6 d4 b4 a8
 go_wp2
 go_ret
 exact⟨Eo (congrArg (fun n:Nat=>(n:Int)) e6.o.symm),e9.o,HE.o⟩
def BI (v:Value)(n:Nat):Prop:=∃ p c,v=.slice p n c/\n<=c/\c<=maxLen/\(n=0∨∃ g,p=some ⟨g,0,none⟩)
theorem Cd.sh {s:Nat}{e:TypeId}(h:Cd w N0 N1 e s v n):BI v n:=by
 obtain⟨p,c,rfl,hc,j,d⟩:=h;refine⟨p,c,rfl,hc,j,?_⟩
 rcases d with d|⟨g,rfl,-⟩
 ·exact .inl d.1
 exact .inr ⟨g,rfl⟩
structure ShB (vs vf vt:Value)(S:List (List UInt8))(F:List Fn)(T:List Tm)(A B:List Value):Prop where
 s:BI vs S.length
 f:BI vf F.length
 t:BI vt T.length
 la:A.length=F.length
 a:∀ i (h:i<A.length) (h':i<F.length),BI A[i] F[i].args.length
 lb:B.length=T.length
 b:∀ i (h:i<B.length) (h':i<T.length),BI B[i] T[i].kids.length
theorem BankX.sh (h:BankX w N0 N1 vs vf vt S F T A B):ShB vs vf vt S F T A B:=
 ⟨h.s.sh,h.f.row.sh,h.t.row.sh,h.f.len,fun i hi hi'=>(h.f.rows i hi hi').1.sh,h.t.len,fun i hi hi'=>(h.t.rows i hi hi').1.sh⟩
theorem HeldB.bl (h:HeldB w vs vf vt S F T A B)(hb:Up w w'):HeldB w' vs vf vt S F T A B:=h.on ((OnB.refl (fun _=>False) w).bl hb) (fun _ _ h=>h)
theorem OQ (w:World)(sh:ShB vs vf vt S F T A B)(h:HeldB w vs vf vt S F T A B)(hs:SmallB S F T) :
 Calls prog 45 #[.agg #[vs,vf,vt],.int .i64 1] w fun e w'=>e=.returned (.int .i64 (kB S F T:Nat))/\Up w w':=by
 obtain⟨⟨a1,c1,rfl,n1,m1,r1⟩,⟨a2,c2,rfl,n2,m2,r2⟩,⟨a3,c3,rfl,n3,m3,r3⟩,e4,b6,e5,b7⟩:=sh;have U:Hid (Up w (w.alloc (.cells #[.slice a1 S.length c1,.slice a2 F.length c2,.slice a3 T.length c3] 31))):=Oz _ _;have G:=Oi w [.slice a1 S.length c1,.slice a2 F.length c2,.slice a3 T.length c3] 31;have Z:=Hd G;have HH:=Hd h;have d4:=Hd r1;have d5:=Hd r2;have d6:=Hd r3;have d7:=Hd b6;have d8:=Hd b7;have e0:=hs.s.1;have e1:=hs.f.1;have e3:=hs.t.1;have M:Hid (∀ f∈F,f.args.length<=1048576):=fun f hf=>(hs.f.2 f hf).2.1.1;have O:Hid (∀ t∈T,t.kids.length<=1048576):=fun t ht=>(hs.t.2 t ht).2.2;have b4:=Ds (k:=1+S.length) M.o F.length leR;obtain⟨k2,d⟩:=Oa (1+S.length);rw[d] at b4;obtain⟨k3,E⟩:=Oa (kfF F k2 F.length);have a8:0<k3:=by rw[<-E];unfold kfF;omega
 rw[E] at b4;have b3:k3<=10000000000000:=by omega
 have e7:=L9 (k:=k3) O.o T.length leR;obtain⟨k4,K⟩:=Oa (kfT T k3 T.length);have d3:Hid (kB S F T=k4):=by unfold Hid kB;rw[d,E,K]
 have d1:Hid (∀ W,Up w W->Calls prog 64 #[.slice a1 S.length c1,.int .i64 1] W fun e w'=>e=.returned (.int .i64 (k2:Nat))/\Up W w'):=fun W hW=>by
  rw[<-d];refine Q7 S.length 1 a1 c1 W n1 m1 e0 (by decide) (by decide) ?_
  by_cases b5:S.length=0
  ·exact .inl b5
  rcases d4.o with h|⟨ga,rfl⟩
  ·exact absurd h b5
  have hl:=J5 w _ (HH.o.s ga c1 rfl 0 (by omega));exact .inr ⟨ga,rfl,Jq hl hW.size,fun j hj=>(hW.cell (p:=⟨ga,j,none⟩) hl).trans (HH.o.s ga c1 rfl j hj)⟩
 have d0:Hid (∀ W,Up w W->Calls prog 65 #[.slice a2 F.length c2,.int .i64 (k2:Nat)] W fun e w'=>e=.returned (.int .i64 (k3:Nat))/\Up W w'):=fun W hW=>by
  have hw:=HH.o.bl hW;rw[<-E,<-d];exact OR (1+S.length) a2 c2 F A W n2 m2 e1 M.o (by omega) (by omega) e4 d5.o (fun g e i hi=>hw.fa g c2 (by rw[e]) i hi) hw.f d7.o
 have d2:Hid (∀ W,Up w W->Calls prog 66 #[.slice a3 T.length c3,.int .i64 (k3:Nat)] W fun e w'=>e=.returned (.int .i64 (k4:Nat))/\Up W w'):=fun W hW=>by
  have hw:=HH.o.bl hW;have ht:=hw.t;rw[d,E] at ht;rw[<-K];exact S0 k3 a3 c3 T B W n3 m3 e3 O.o a8 b3 e5 d6.o (fun g e i hi=>hw.ta g c3 (by rw[e]) i hi) ht d8.o
 have y2:decide ((k2:Int)<0)=false:=Jc (by omega);have y3:decide ((k3:Int)<0)=false:=Jc (by omega);have y4:decide ((k4:Int)<0)=false:=Jc (by omega);obtain⟨b0,b1,b2⟩:=(show _/\_/\_ from ⟨G.cell 0,G.cell 1,G.cell 2⟩);clear G hs h r1 r2 r3 b6 b7 d E K
 go_in
 go_wp2_with fail
 refine (d1.o _ U.o).mono ?_;rintro e w2 ⟨rfl,hb2⟩;have V:=U.up hb2;have I:=Hd (Z.o.bl Z.o.lt hb2);have b1:=I.o.cell 1;have b2:=I.o.cell 2;clear hb2
 go_wp2_with fail
 refine (d0.o _ V.o).mono ?_;rintro e w3 ⟨rfl,J⟩;have Y:=V.up J;have d9:=Hd (I.o.bl I.o.lt J);have b2:=d9.o.cell 2;clear J
 go_wp2_with fail
 refine (d2.o _ Y.o).mono ?_;rintro e w4 ⟨rfl,a7⟩;have c8:=Y.up a7;clear a7
 go_wp2
 go_ret
 exact⟨Eo (congrArg (fun n:Nat=>(n:Int)) d3.o.symm),c8.o⟩
end Go.Proofs.YtdmdmgfjpomdbaaGreatDoor
namespace Go.Proofs.YtdmdmgfjpomdbaaGreatDoor
open ChangeShapes WideShapes ChangeAt RowKit
variable {F:List Fn}{N0 base n:Nat}{S:List (List UInt8)}{T:List Tm}{v:Value}{w:World}
theorem Mp {s:Nat}{e:TypeId}{xs:List Value}(h:w.ownsRow base e s v n xs):∀ b,v.ownBlock=some b->∃ n,Xy w b e n:=by
 intro b hb
 rcases h.2 with⟨rfl,_⟩|⟨g,cap,d,rfl,_,j,_⟩
 ·cases hb
 cases hb;exact⟨0,d,j,Jr _⟩
theorem FunsX.of {X:List (Fn×Value)}(hr:w.ownsRow base 45 3 v (X.map Prod.fst).length (X.flatMap funC))(hA:∀ x∈X,w.ownsRow base 9 1 x.2 x.1.args.length (strsC x.1.args))(hp:X.Pairwise Nq)(h0:N0<=base):FunsX w N0 w.heap.size v (X.map Prod.fst) (X.map Prod.snd):=by
 refine⟨Cy hr h0 leR,by simp,fun g c e i hi=>?_,fun i hi hi'=>?_,fun i j hi hj hij b hb=>?_,Mp hr⟩
 ·subst e;have hi':i<X.length:=by simpa using hi
  rw[Za];exact X4 hr (by rw[P4 (k:=3) (fun _=>rfl) X i 1 hi' (by decide)];rfl)
 ·have d:i<X.length:=by simpa using hi
  have h:=hA _ (Jo d);rw[Za,Za];exact⟨Cy h h0 leR,Mp h⟩
 rw[Za] at hb ⊢;exact List.pairwise_iff_getElem.1 hp i j (by simpa using hi) (by simpa using hj) hij b hb
theorem Ec.x (h:Ec w base v F)(h0:N0<=base):∃ A,FunsX w N0 w.heap.size v F A/\∀ a∈A,∀ b,a.ownBlock=some b->base<=b:=by
 obtain⟨X,rfl,E,d,j⟩:=h;refine⟨_,FunsX.of E d j h0,fun a ha b hb=>?_⟩;obtain⟨x,G,rfl⟩:=Zh.1 ha;exact Ol (d x G) b hb
theorem K8.x (h:K8 w base v T)(h0:N0<=base):∃ A,TermsX w N0 w.heap.size v T A/\∀ a∈A,∀ b,a.ownBlock=some b->base<=b:=by
 obtain⟨X,rfl,G,I,J⟩:=h;refine⟨X.map Prod.snd,⟨Cy G h0 leR,by simp,fun g c e i hi=>?_,fun i hi hi'=>?_,fun i j hi hj hij b hb=>?_,Mp G⟩,fun a ha b hb=>?_⟩
 ·subst e;have hi':i<X.length:=by simpa using hi
  rw[Za];exact X4 G (by rw[P4 (k:=6) (fun _=>rfl) X i 5 hi' (by decide)];rfl)
 ·have E:i<X.length:=by simpa using hi
  have d:=I _ (Jo E);rw[Za,Za];exact⟨Cy d h0 leR,Mp d⟩
 ·rw[Za] at hb ⊢;exact List.pairwise_iff_getElem.1 J i j (by simpa using hi) (by simpa using hj) hij b hb
 obtain⟨x,d,rfl⟩:=Zh.1 ha;exact Ol (I x d) b hb
theorem Wz {N bs bf bt:Nat}{us uf ut:Value}(hs:w.ownsRow bs 9 1 us S.length (strsC S))(hf:Ec w bf uf F)(ht:K8 w bt ut T)(h1:N<=bs)(h2:N<=bf)(h3:N<=bt)(hl:∀ b,us.ownBlock=some b->b<bf) :
 ∃ A B,BankX w N w.heap.size us uf ut S F T A B/\∀ b,PB us uf ut A B b->N<=b:=by
 obtain⟨A,E,d⟩:=hf.x h2;obtain⟨B,G,h⟩:=ht.x h3;refine⟨A,B,⟨Cy hs h1 leR,Mp hs,E,G,fun b hb a ha e=>?_⟩,fun b hb=>?_⟩
 ·have h4:=hl b hb;have h5:=d a ha b e;omega
 rcases hb with hb|(hb|⟨a,ha,hb⟩)|(hb|⟨a,ha,hb⟩)
 ·exact Yc h1 (Ol hs b hb)
 ·obtain⟨X,-,j,-⟩:=hf;exact Yc h2 (Ol j b hb)
 ·exact Yc h2 (d a ha b hb)
 ·obtain⟨X,-,j,-⟩:=ht;exact Yc h3 (Ol j b hb)
 exact Yc h3 (h a ha b hb)
theorem Book.x {w0:World}{kb sb fb tb gb nS nF nT:Nat}{vS vF vT:Value}{bF:Nat}{W:World}(h:Book w0 kb sb fb tb gb n nS nF nT S F T vS vF vT bF W):∃ A B,BankX W w0.heap.size W.heap.size vS vF vT S F T A B/\∀ b,PB vS vF vT A B b->w0.heap.size<=b:=by
 have j:=h.ids;have d:=h.far;exact Wz h.sr h.fr h.tr (by omega) (by omega) (by omega) (fun b hb=>d.2.2 b hb)
theorem Book.at {w0:World}{kb sb fb tb gb nS nF nT:Nat}{vS vF vT:Value}{bF:Nat}{W:World}(h:Book w0 kb sb fb tb gb n nS nF nT S F T vS vF vT bF W):BankAt W vS vF vT S F T:=⟨Iq h.sr,h.fr.at,h.tr.at⟩
end Go.Proofs.YtdmdmgfjpomdbaaGreatDoor
