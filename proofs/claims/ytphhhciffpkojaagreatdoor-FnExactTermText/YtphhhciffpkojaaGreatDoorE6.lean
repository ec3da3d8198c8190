import Derived.Test.YtphhhciffpkojaaGreatDoorP00
import Derived.Test.YtphhhciffpkojaaGreatDoorE5
import Derived.Lib.ConvBytes
set_option maxRecDepth 100000
set_option maxHeartbeats 4000000
set_option linter.all false
namespace Go.Proofs.YtphhhciffpkojaaGreatDoor
open ChangeShapes WideShapes ChangeAt RowKit Proofs.Tryz
variable {T:List Tm}
def TZ (v L:Nat):Prop:=(L<=20000/\v=L)∨(20000<L/\20000<v/\v<=30000)
theorem TZ.le {v L:Nat}(h:TZ v L):v<=30000:=by rcases h with h|h<;>omega
theorem TZ.add {n M x L:Nat}(h:TZ n M)(hx:TZ x L):TZ (if 20000<n+(1+x) then 20001 else n+(1+x)) (M+(1+L)):=by
 unfold TZ at *
 split<;>omega
def TV (T:List Tm)(hd:Nat)(ks:List Int):Nat:=hd+2+(ks.map (fun x=>1+(SB T x.toNat).length)).sum
theorem WQ (T:List Tm)(hd:Nat)(ks:List Int)(i:Nat)(h:i<ks.length):TV T hd (ks.take (i+1))=TV T hd (ks.take i)+(1+(SB T ks[i].toNat).length):=by
 unfold TV;rw[List.take_add_one,Jd h,Yr,List.sum_append];simp;omega
theorem JG (T:List Tm)(ks:List Int):(ks.flatMap (fun x=>32::SB T x.toNat)).length=(ks.map (fun x=>1+(SB T x.toNat).length)).sum:=by
 rw[List.length_flatMap]
 congr 1
 refine List.map_congr_left fun x _=>?_;rw[Yq];omega
theorem oC (hD:JL T){i:Nat}(hi:i<T.length):(SB T i).length=if (Ke T i).kids=[] then (SM (Ke T i)).length else TV T (SM (Ke T i)).length (Ke T i).kids:=by
 rw[TP hD hi]
 split
 ·rfl
 unfold TV;rw[Yn,Yn,JG];simp;omega
theorem WM {w:World}{vs vf vt:Value}{S:List (List UInt8)}{F:List Fn}(h:BankAt w vs vf vt S F T)(hTl:T.length<=3000)(hok:TmsOk T)(hnum:∀ i,i<T.length->(Ke T i).op=12->Gt (Ke T i)=true) :
 Calls prog 68 #[.agg #[vs,vf,vt]] w fun e w'=>∃ g,e=.returned (.slice (some ⟨g,0,none⟩) T.length T.length)/\(∀ i,i<T.length->∃ v:Nat,w'.cell? ⟨g,i,none⟩=some (.int .i64 (v:Nat))/\TZ v (SB T i).length)/\Up w w':=by
 obtain⟨G,a8⟩:=Oa (w.alloc (.cells #[vs,vf,vt] 32));have b9:Up w G:=by rw[<-a8];exact Oz _ _
 have K:Bx G w.heap.size [vs,vf,vt]:=by rw[<-a8];exact Oi w _ _
 have h8:=Hd a8;have e4:=Hd b9;have a7:=Hd K;have h7:=Hd (h.t.bl b9);have M:=Hd hok;have h0:=Hd hnum;obtain⟨ps,cs,rfl,-,-,-⟩:=h.s;obtain⟨pf,cf,rfl,-,-,-⟩:=h.f;obtain⟨pt,ct,rfl,-,-,-⟩:=h.t;obtain⟨i0,g1,j5,j6,j7⟩:=Lp;obtain⟨c0,c1,c2⟩:=K.c3;have l6:w.heap.size<G.heap.size:=K.lt;clear h hok hnum a8 b9 K
 go_in
 go_upto_region 1 with fail
 rw[h8.o]
 go_wp2_with (at_make;refine wpList_make_full _ rfl _ _ 52 rfl G.heap.size 3 i0 (.int .i64 0) 1 underlying52 g1 j5 j6 .i64 .i64 _ _ T.length rfl rfl (by simp) (by simp) (by rw[j7];omega) (by unfold maxLen;omega) leR ?_)
 intro w1 O d3;have e5:Hid (Up G w1):=(Je _ _).grown d3 leR (fun k e=>by cases e);have h6:=Hd O;obtain⟨d0,d1,d2⟩:=(a7.o.bl a7.o.lt e5.o).c3;clear O d3 c0 c1 c2
 go_wp2
 go_loopw [4,5,6,8,16] (fun _ _ _ _ iv wr=>∃ (i:Nat) (xs:List Value),i<=T.length/\iv=.int .i64 (i:Nat)/\(∀ j,j<i->∃ v:Nat,xs[j]? = some (.int .i64 (v:Nat))/\TZ v (SB T j).length)/\wr.ownsRow G.heap.size 3 1 (.slice (some ⟨G.heap.size,0,none⟩) T.length T.length) T.length xs/\Up G wr) (fun _ _ _ _ iv _=>T.length - (intOf iv).toNat)
 case atStart=>exact⟨0,_,Jr _,rfl,fun j h=>absurd h (J2 _),h6.o,e5.o⟩
 rename World=>wr
 obtain⟨i,xs,hi,rfl,J,E,hB⟩:=hrel;have HB:=Hd hB;have b5:=Hd J;have HO:=Hd E;have b7:Hid (xs.length=T.length):=by have:=E.1;unfold Hid;omega
 have l9:G.heap.size<=wr.heap.size:=hB.size;have d3:G.heap.size<wr.heap.size:=(E.lt _ rfl).2;clear d0 d1 d2
 by_cases d:i<T.length
 ·have z1:decide ((i:Int)<(T.length:Int))=true:=Ja (by omega);have z2:decide (i<T.length)=true:=Ja d;obtain⟨bt,l4,pk,ck,e,k0,k1,k2,k3,k4,k5,k6⟩:=TH (h7.o.bl hB) d;simp only[Value.slice.injEq,true_and] at e;obtain⟨rfl,rfl⟩:=e;obtain⟨d0,d1,d2⟩:=(a7.o.bl a7.o.lt hB).c3;have b8:=oC M.o.desc d;have d4:=M.o.head i d;have j3:=M.o.kids i d;have f9:=M.o.hl i d;have c8:=M.o.desc i d;have d6:=h0.o i d;obtain⟨t,ht⟩:=Oa (Ke T i);rw[ht] at k0 k1 k2 k3 k4 k5 k6 b8 d4 j3 f9 c8 d6;obtain⟨W1,b3⟩:=Oa (wr.alloc (.cells #[.int .i64 t.op,.string (Oo t.sort),.string (Oo t.text),.int .i64 t.a,.int .i64 t.b,.slice pk t.kids.length ck] 57));have f5:Up wr W1:=by rw[<-b3];exact Oz _ _
  have d9:Bx W1 wr.heap.size [.int .i64 t.op,.string (Oo t.sort),.string (Oo t.text),.int .i64 t.a,.int .i64 t.b,.slice pk t.kids.length ck]:=by rw[<-b3];exact Oi wr _ _
  have h9:=Hd b3;have e9:=Hd d9;have e6:=Hd f5;have b6:=Hd b8;have g7:=Hd c8;have g8:=Hd k6;have e7:=Hd (TF t pk t.kids.length ck W1 d4 d6);obtain⟨U,f8⟩:=Oa (SM t);rw[f8] at e7 b6 f9;have l8:=H5 U;clear J E hB b8 d4 c8 d6 ht b3 f5 f8 k6
  go_upto_region 6 with fail
  rw[h9.o];obtain⟨x0,x1,x2,x3,x4,x5⟩:=d9.k6;clear d9 k0 k1 k2 k3 k4 k5 d0 d1 d2
  go_wp2_with fail
  refine e7.o.mono ?_;rintro e w2 ⟨rfl,c6⟩;have V:=Hd (e6.o.trans (c6.mono e6.o.size));have Z:=Hd (Et HO.o V.o);have y5:=(e9.o.bl e9.o.lt c6).cell 5;simp only[Jm,Js] at y5;have l7:=V.o.size;have e3:Hid (∀ n:Nat,TZ n (SB T i).length->(∃ (i':Nat) (xs':List Value),i'<=T.length/\Value.int .i64 ((i:Int)+1)=.int .i64 (i':Nat)/\(∀ j,j<i'->∃ v:Nat,xs'[j]? = some (.int .i64 (v:Nat))/\TZ v (SB T j).length)/\(w2.setCell ⟨G.heap.size,i,none⟩ (.int .i64 (n:Nat))).ownsRow G.heap.size 3 1 (.slice (some ⟨G.heap.size,0,none⟩) T.length T.length) T.length xs'/\Up G (w2.setCell ⟨G.heap.size,i,none⟩ (.int .i64 (n:Nat))))):=fun n hn=>by
   refine⟨i+1,_,by omega,by rfl,?_,(Z.o.stored i (.int .i64 (n:Nat))).1,(HB.o.trans (V.o.mono HB.o.size)).sc⟩;intro j hj
   by_cases e:j=i
   ·subst e;exact⟨n,by rw[Y7 (by have:=b7.o;omega)],hn⟩
   obtain⟨v,h1,h2⟩:=b5.o j (by omega);exact⟨v,by rw[J9 (by omega)];exact h1,h2⟩
  obtain⟨u0,e0⟩:=I5 Z.o i (by omega);have g0:=Z.o.frozenAt i;clear c6 x0 x1 x2 x3 x4 x5
  by_cases d5:t.kids.length=0
  ·have z0:decide ((0:Int)<(t.kids.length:Int))=false:=Jc (by omega);have z3:decide (0<t.kids.length)=false:=Jc (by omega);have HL:Hid (TZ U.length (SB T i).length):=by
    unfold Hid;rw[b6.o,if_pos (Jw d5)];unfold TZ;omega
   rw[d5] at y5
   go_wp2
   go_loopw [6,8,36] (fun s6 _ jv wq=>s6=.int .i64 (U.length:Nat)/\jv=.int .i64 0/\w2=wq) (fun _ _ _ _=>0)
   case atStart=>exact⟨rfl,rfl,rfl⟩
   obtain⟨rfl,rfl,rfl⟩:=hrel
   go_wp2
   go_roundw
   case rel=>exact e3.o _ HL.o
   simp[intOf];omega
  have z0:decide ((0:Int)<(t.kids.length:Int))=true:=Ja (by omega);have z3:decide (0<t.kids.length)=true:=Ja (by omega);have g2:t.kids≠[]:=fun e=>d5 (by rw[e];rfl);have HL:Hid ((SB T i).length=TV T U.length t.kids):=by unfold Hid;rw[b6.o,if_neg g2]
  clear g2
  go_wp2
  go_loopw [6,8,36] (fun s6 _ jv wq=>∃ j n:Nat,j<=t.kids.length/\jv=.int .i64 (j:Nat)/\s6=.int .i64 (n:Nat)/\TZ n (TV T U.length (t.kids.take j))/\w2=wq) (fun _ _ jv _=>t.kids.length - (intOf jv).toNat)
  case atStart=>exact⟨0,U.length+2,Jr _,rfl,by go_num,by show TZ _ (U.length+2+0);unfold TZ;omega,rfl⟩
  obtain⟨j,n,hj,rfl,rfl,d7,rfl⟩:=hrel;have l5:=d7.le;have e8:=Hd d7;clear d7
  by_cases I:j<t.kids.length
  ·have z5:decide ((j:Int)<(t.kids.length:Int))=true:=Ja (by omega);have z6:decide (j<t.kids.length)=true:=Ja I;obtain⟨bk,rfl,q0⟩:∃ bk,pk=some ⟨bk,0,none⟩/\w2.cell? ⟨bk,j,none⟩=some (.int .i64 t.kids[j]):=by
    obtain⟨p',c',e,-,-,h3⟩:=g8.o.bl V.o;simp only[Value.slice.injEq,true_and] at e;obtain⟨rfl,rfl⟩:=e
    rcases h3 with h3|⟨b',e,_,h5⟩
    ·rw[h3] at I;exact absurd I (J2 _)
    exact⟨b',e,h5 j I⟩
   obtain⟨K,e1⟩:=g7.o t.kids[j] (Jo I);have Y:=Hd (WQ T U.length t.kids j I);obtain⟨x,hx⟩:∃ x:Nat,t.kids[j]=(x:Int):=⟨t.kids[j].toNat,by omega⟩;rw[hx] at q0 e1 Y;rw[Int.toNat_natCast] at e1 Y;obtain⟨v,g3,d8⟩:=b5.o x e1;have m5:=d8.le;have q1:=Z.o.cellAt x (by have:=b7.o;omega);rw[g3] at q1;have j4:x<T.length:=by omega
   have z7:decide (x<T.length)=true:=Ja j4;have HA:=Hd (e8.o.add d8);clear K hx g3 d8
   cases hb:decide (20000<n+(1+v))
   ·have z8:decide ((20000:Int)<(n:Int)+(1+(v:Int)))=false:=by have:=of_decide_eq_false hb;exact Jc (by omega)
    have b4:Hid (TZ (n+(1+v)) (TV T U.length (t.kids.take (j+1)))):=by
     unfold Hid;have:=HA.o;rw[if_neg (of_decide_eq_false hb)] at this;rw[Y.o];exact this
    clear hb
    go_wp2
    go_roundw
    case rel=>exact⟨j+1,n+(1+v),by omega,by go_num,by go_num,b4.o,by first|rfl|trivial⟩
    simp[intOf];omega
   have z8:decide ((20000:Int)<(n:Int)+(1+(v:Int)))=true:=by have:=of_decide_eq_true hb;exact Ja (by omega)
   have b4:Hid (TZ 20001 (TV T U.length (t.kids.take (j+1)))):=by
    unfold Hid;have:=HA.o;rw[if_pos (of_decide_eq_true hb)] at this;rw[Y.o];exact this
   clear hb
   go_wp2
   go_roundw
   case rel=>exact⟨j+1,20001,by omega,by go_num,rfl,b4.o,by first|rfl|trivial⟩
   simp[intOf];omega
  have z5:decide ((j:Int)<(t.kids.length:Int))=false:=Jc (by omega);have z6:decide (j<t.kids.length)=false:=Jc I;have HF:Hid (TZ n (SB T i).length):=by
   unfold Hid;have:=e8.o;rw[Jl (by omega)] at this;rw[HL.o];exact this
  go_wp2
  go_roundw
  case rel=>exact e3.o _ HF.o
  simp[intOf];omega
 have z1:decide ((i:Int)<(T.length:Int))=false:=Jc (by omega);have z2:decide (i<T.length)=false:=Jc d;have g6:=Hd (e4.o.trans (HB.o.mono e4.o.size));clear J E hB
 go_wp2
 go_ret
 refine⟨_,rfl,fun j hj=>?_,g6.o⟩;obtain⟨v,h1,h2⟩:=b5.o j (by omega);exact⟨v,(HO.o.cellAt j (by have:=b7.o;omega)).trans h1,h2⟩
def TY (w:World)(v:Value)(l:List UInt8):Prop:=∃ g cap,v=.slice (some ⟨g,0,none⟩) l.length cap/\g<w.heap.size/\∀ j (h:j<l.length),w.cell? ⟨g,j,none⟩=some (.int .u8 (l[j].toNat:Int))
theorem WY {w:World}{base:Nat}{v:Value}{l:List UInt8}(h:w.ownsRow base 5 1 v l.length (Lib.byteCells l))(hl:0<l.length):TY w v l:=by
 have d:=h
 rcases h.2 with⟨_,G⟩|⟨g,cap,E,rfl,_⟩
 ·omega
 exact⟨g,cap,rfl,(d.lt g rfl).2,fun j hj=>(d.cellAt j (by omega)).trans (by simp[Lib.byteCells,List.getElem?_eq_getElem hj])⟩
theorem JB (g i:Nat):(⟨g,0,none⟩:Addr).add i=⟨g,i,none⟩:=by simp only[Addr.add];split<;>simp_all
theorem JK {W:World}{base:Nat}{v:Value}{n:Nat}{xs:List Value}{l:List UInt8}(h:W.ownsRow base 5 1 v n xs)(hx:xs=Lib.byteCells l):W.ownsRow base 5 1 v l.length (Lib.byteCells l):=by
 subst hx;have d:=h.1;rw[Lib.byteCells_length] at d;have:n=l.length:=by omega
 subst this;exact h
theorem TU {ops:Array Oper}{rest:List Oper}{o:Oper}{a:Act}{Q:Exit->Act->World->Prop}{W:World}{base:Nat}{v vy:Value}{A L:List UInt8}(hgd:o.guard=none)(s y:Operand)
 (ho:o.op=.call { callee:=.builtin .append,args:=#[s,y],argTypes:=#[103,103] }) (hs:a.eval s=v) (hown:W.ownsRow base 5 1 v A.length (Lib.byteCells A))
 (hx:a.eval y=vy) (hy:TY W vy L) (hn:A.length+L.length<=1000000000) (hbase:base<=W.heap.size)
 (h:∀ v' W',W'.ownsRow base 5 1 v' (A++L).length (Lib.byteCells (A++L))->W.grownBy W' v.ownBlock->wpList prog ops Q rest (a.put o.dst v') W') :
 wpList prog ops Q (o::rest) a W:=by
 obtain⟨i0,d,E,G,I⟩:=info_parts OP;obtain⟨g,c,rfl,-,hc⟩:=hy;obtain⟨v',w',O,M,h3,_,_⟩:=run_append_own_at (P:=prog) W base 103 o.type 5 i0 _ 1 1 underlying103 d E G I rfl (by decide) v A.length (Lib.byteCells A) hown ⟨g,0,none⟩ L.length c (Lib.byteCells L) (by rw[Lib.byteCells_length];omega) (fun j u hu=>by
  have J:j<L.length:=by have:=(Zq.1 hu).1;simpa[Lib.byteCells] using this
  rw[JB,hc j J,<-hu];simp[Lib.byteCells,List.getElem?_eq_getElem J]) (fun u hu=>by
  simp only[Lib.byteCells,Zh] at hu;obtain⟨x,_,rfl⟩:=hu;rfl) (by unfold maxLen;omega) (by omega) hbase
 refine wpList_plain hgd fun K hK=>?_;unfold Oper.wp;simp[execOp,ho,resolve,invoke,builtin,hs,hx,O,Result.andThen];exact hK _ _ (h v' w' (JK M (Lib.byteCells_append A L).symm) h3)
theorem TW (W:World)(c:UInt8):TY (W.alloc (.cells #[.int .u8 (c.toNat:Int)] 5)) (.slice (some ⟨W.heap.size,0,none⟩) 1 1) [c]:=by
 have h:=Oi W [.int .u8 (c.toNat:Int)] 5;refine⟨W.heap.size,1,rfl,h.lt,fun j hj=>?_⟩;have d:j=0:=by simp at hj;omega
 subst d;exact h.cell 0
theorem oX (W:World)(base:Nat)(c:UInt8)(h:base<=W.heap.size):(W.alloc (.cells #[.int .u8 (c.toNat:Int)] 5)).ownsRow base 5 1 (.slice (some ⟨W.heap.size,0,none⟩) 1 1) [c].length (Lib.byteCells [c]):=
 ⟨rfl,.inr ⟨W.heap.size,1,#[.int .u8 (c.toNat:Int)],rfl,h,ST _ _,leR,by unfold maxLen;decide,rfl,rfl⟩⟩
theorem WI {ops:Array Oper}{rest:List Oper}{o:Oper}{a:Act}{Q:Exit->Act->World->Prop}{W:World}{base:Nat}{v:Value}{A t:List UInt8}(hgd:o.guard=none)(s x:Operand)
 (ho:o.op=.call { callee:=.builtin .append,args:=#[s,x],argTypes:=#[103,9] }) (hs:a.eval s=v) (hown:W.ownsRow base 5 1 v A.length (Lib.byteCells A))
 (hx:a.eval x=.string (Oo t)) (hn:A.length<=1000000000) (ht:t.length<=1000000) (hbase:base<=W.heap.size)
 (h:∀ v' W',W'.ownsRow base 5 1 v' (A++t).length (Lib.byteCells (A++t))->W.grownBy W' v.ownBlock->wpList prog ops Q rest (a.put o.dst v') W') :
 wpList prog ops Q (o::rest) a W:=by
 obtain⟨i0,d,j,E,G⟩:=info_parts OP;have K:=H5 t;refine Lib.wpList_append_own_string _ hgd s x 103 9 ho base 5 i0 underlying103 underlying9 d j E G v A.length (Lib.byteCells A) hs hown (Oo t) hx (by rw[H5];unfold maxLen;omega) (by omega) hbase ?_;intro v' W' I J _;refine h v' W' (JK I ?_) J;rw[Lib.byteCells_append,Lib.strCells_eq,Ou]
theorem WX (w:World)(e:TypeId)(s:ByteArray):Up w (Lib.bytesWorld w e s):=
 (Je _ _).grown (row:=none) ⟨rfl,rfl,rfl,by rw[Lib.bytesWorld_size];omega,fun k hk _=>Lib.bytesWorld_at_old w e s k hk⟩ leR (fun k e=>by cases e)
def yK (T:List Tm)(id:Nat)(w:World)(e:Ending)(w':World):Prop:=∃ v,e=.returned v/\TY w' v (SB T id)/\Up w w'
theorem oH (T:List Tm)(ks:List Int)(j:Nat)(h:j<ks.length):(ks.take j).flatMap (fun x=>32::SB T x.toNat)++(32::SB T ks[j].toNat)=(ks.take (j+1)).flatMap (fun x=>32::SB T x.toNat):=by
 rw[List.take_add_one,Jd h,Zs];simp
theorem JN (T:List Tm)(ks:List Int)(j:Nat):((ks.take j).flatMap (fun x=>32::SB T x.toNat)).length<=(ks.flatMap (fun x=>32::SB T x.toNat)).length:=by
 have:ks.flatMap (fun x=>32::SB T x.toNat)=(ks.take j).flatMap (fun x=>32::SB T x.toNat)++(ks.drop j).flatMap (fun x=>32::SB T x.toNat):=by rw[<-Zs,Zi]
 rw[this,Yn];omega
def TR (T:List Tm)(hd:List UInt8)(ks:List Int)(j:Nat):List UInt8:=[40]++hd++(ks.take j).flatMap (fun x=>32::SB T x.toNat)
theorem JO {vs vf vt:Value}{S:List (List UInt8)}{F:List Fn}(_hTl:T.length<=3000)(hok:TmsOk T)(hnum:∀ i,i<T.length->(Ke T i).op=12->Gt (Ke T i)=true)(hne:∀ i,i<T.length->SB T i≠[]):∀ (m id:Nat),id<m->id<T.length->(SB T id).length<=20000->∀ w,BankAt w vs vf vt S F T->Calls prog 69 #[.agg #[vs,vf,vt],.int .i64 (id:Nat)] w (yK T id w):=by
 intro m
 induction m with
 | zero=>exact fun id h=>absurd h (J2 _)
 | succ m ih=>
   intro id n5 d l1 w h;have h8:Hid (∀ id',id'<id->(SB T id').length<=20000->∀ w,BankAt w vs vf vt S F T->Calls prog 69 #[.agg #[vs,vf,vt],.int .i64 (id':Nat)] w (yK T id' w)):=fun id' h1=>ih id' (by omega) (by omega);have HH:=Hd h;obtain⟨bt,ct,pk,ck,e,k0,k1,k2,k3,k4,k5,k6⟩:=TH h.t d;obtain⟨ps,cs,rfl,-,-,-⟩:=h.s;obtain⟨pf,cf,rfl,-,-,-⟩:=h.f;subst e;have d7:=TP hok.desc d;have e1:=hok.head id d;have j4:=hok.kids id d;have g1:=hok.hl id d;have e0:=hok.desc id d;have e2:=hnum id d;have m8:=Hd hne;obtain⟨t,ht⟩:=Oa (Ke T id);rw[ht] at k0 k1 k2 k3 k4 k5 k6 d7 e1 j4 g1 e0 e2;obtain⟨M,f5,b9,g6,V,j5⟩:=VO w [.slice ps S.length cs,.slice pf F.length cf,.slice (some ⟨bt,0,none⟩) T.length ct] [.int .i64 t.op,.string (Oo t.sort),.string (Oo t.text),.int .i64 t.a,.int .i64 t.b,.slice pk t.kids.length ck] 32 57;have n7:w.heap.size+1<M.heap.size:=by omega
   have j0:=Hd f5;have b5:=Hd b9;have e8:=Hd g6;clear j5;have b6:=Hd V;have d4:=Hd d7;have h7:=Hd e0;have i1:=Hd (k6.bl b9);have h6:=Hd (h.bl b9);have d2:=Hd (fun W=>TF t pk t.kids.length ck W e1 e2);obtain⟨U,g0⟩:=Oa (SM t);rw[g0] at d2 d4 g1;have j6:=H5 U;have n3:bt<w.heap.size:=J5 w _ k0;clear d7 e1 e0 e2 ht f5 g0 k6 ih hok hnum h hne;obtain⟨x0,x1,x2,x3,x4,x5⟩:=V.k6;have z9:decide (id<T.length)=true:=Ja d;clear g6 V b9
   go_in
   go_upto_region 2 with fail
   rw[j0.o];clear k0 k1 k2 k3 k4 k5
   by_cases c6:t.kids.length=0
   ·have z0:((t.kids.length:Int)==0)=true:=by rw[Yf];omega
    have HE:Hid (SB T id=U):=by unfold Hid;rw[d4.o,if_pos (Jw c6)]
    clear c6
    go_wp2_with fail
    refine (d2.o _).mono ?_;rintro e w2 ⟨rfl,O⟩;have Y:=Hd (b5.o.trans (O.mono b5.o.size));have n4:=Lib.run_convert_string_bytes (P:=prog) w2 9 103 5 (Oo U) underlying9 underlying103 underlying5;clear O
    go_wp2
    go_ret
    refine⟨_,rfl,?_,Y.o.trans ((WX _ _ _).mono Y.o.size)⟩;rw[HE.o];refine⟨w2.heap.size,_,rfl,by rw[Lib.bytesWorld_size];omega,fun j hj=>?_⟩;rw[Lib.bytesWorld_cell _ _ _ _ (by rw[j6];exact hj),Ou];simp[List.getD,hj]
   have z0:((t.kids.length:Int)==0)=false:=by rw[Jb];omega
   have g2:t.kids≠[]:=fun e=>c6 (by rw[e];rfl);have HE:Hid (SB T id=([40]++U++t.kids.flatMap (fun x=>32::SB T x.toNat))++[41]):=by unfold Hid;rw[d4.o,if_neg g2];simp
   have n6:(t.kids.flatMap (fun x=>32::SB T x.toNat)).length+U.length<=20000:=by
    have:=congrArg List.length HE.o;simp only[Yn,Yq,Zn] at this;omega
   obtain⟨W2,b8⟩:=Oa (M.alloc (.cells #[.int .u8 40] 5));have O:Up M W2:=by rw[<-b8];exact Oz _ _
   have g3:W2.ownsRow M.heap.size 5 1 (.slice (some ⟨M.heap.size,0,none⟩) 1 1) [(40:UInt8)].length (Lib.byteCells [40]):=by rw[<-b8];exact oX M _ 40 leR
   have V:=b6.o.bl b6.o.lt O;obtain⟨x0,x1,x2,x3,x4,x5⟩:=V.k6;have j1:=Hd b8;have Y:=Hd O;have i6:=Hd g3;clear c6 g2 b8 O g3 V
   go_upto_region 5 with fail
   rw[j1.o]
   go_wp2_with fail
   refine (d2.o _).mono ?_;rintro e w3 ⟨rfl,d8⟩;have c8:=Hd (Y.o.trans (d8.mono Y.o.size));have e6:=Hd (Et i6.o d8);clear d8 x0 x1 x2 x3 x4 x5
   go_wp2_with (at_builtin;refine WI (A:=[40]) (t:=U) rfl _ _ rfl rfl e6.o rfl (by decide) (by omega) c8.o.size ?_;intro v4 w4 g4 f8;have e5:Hid (Up M w4):=c8.o.grown f8 (by have:=c8.o.size;omega) (fun k e=>(e6.o.lt k e).1);have i7:=Hd g4;have y5:=(b6.o.bl b6.o.lt e5.o).cell 5;simp only[Jm,Js] at y5;clear g4 f8)
   go_loopw [6,8,29] (fun vo _ jv wq=>∃ (j:Nat),j<=t.kids.length/\jv=.int .i64 (j:Nat)/\wq.ownsRow M.heap.size 5 1 vo (TR T U t.kids j).length (Lib.byteCells (TR T U t.kids j))/\Up M wq) (fun _ _ jv _=>t.kids.length - (intOf jv).toNat)
   case atStart=>exact⟨0,Jr _,rfl,by rw[show TR T U t.kids 0=[40]++U by simp[TR]];exact i7.o,e5.o⟩
   rename World=>wq
   obtain⟨j,hj,rfl,ho,hb⟩:=hrel;have HO:=Hd ho;have HB:=Hd hb;have n2:=JN T t.kids j;clear ho hb y5
   by_cases J:j<t.kids.length
   ·have z5:decide ((j:Int)<(t.kids.length:Int))=true:=Ja (by omega);have z6:decide (j<t.kids.length)=true:=Ja J;obtain⟨bk,rfl,q0⟩:∃ bk,pk=some ⟨bk,0,none⟩/\wq.cell? ⟨bk,j,none⟩=some (.int .i64 t.kids[j]):=by
     obtain⟨p',c',e,-,-,h3⟩:=i1.o.bl HB.o;simp only[Value.slice.injEq,true_and] at e;obtain⟨rfl,rfl⟩:=e
     rcases h3 with h3|⟨b',e,_,h5⟩
     ·rw[h3] at J;exact absurd J (J2 _)
     exact⟨b',e,h5 j J⟩
    obtain⟨j7,e3⟩:=h7.o t.kids[j] (Jo J);have a8:=oH T t.kids j J;have l0:=JN T t.kids (j+1);obtain⟨x,hx⟩:∃ x:Nat,t.kids[j]=(x:Int):=⟨t.kids[j].toNat,by omega⟩;rw[hx] at q0 e3 a8;rw[Int.toNat_natCast] at e3 a8;obtain⟨A,hA⟩:=Oa (TR T U t.kids j);have j3:A.length<=20001:=by rw[<-hA];unfold TR;simp only[Yn,Yq,Zn];omega
    have j8:(SB T x).length<=20000:=by
     have:=congrArg List.length a8;simp only[Yn,Yq] at this;omega
    have d1:Hid ((A++[32])++SB T x=TR T U t.kids (j+1)):=by
     unfold Hid TR;rw[<-hA,<-a8];unfold TR;simp
    rw[hA] at HO;obtain⟨W5,E⟩:=Oa (wq.alloc (.cells #[.int .u8 32] 5));have I:Up wq W5:=by rw[<-E];exact Oz _ _
    have b4:TY W5 (.slice (some ⟨wq.heap.size,0,none⟩) 1 1) [32]:=by rw[<-E];exact TW wq 32
    have d5:=Hd E;have d6:=Hd b4;have Z:=Hd (Et HO.o I);have G:=Hd (HB.o.trans (I.mono HB.o.size));have n8:x<T.length:=by omega
    have h9:=Hd (fun W (h:Up M W)=>h8.o x e3 j8 W (h6.o.bl h));clear j7 hx a8 hA E I b4
    go_wp2_with (at_builtin;rw[d5.o];refine TU (A:=A) (L:=[32]) rfl _ _ rfl rfl Z.o rfl d6.o (by simp;omega) G.o.size ?_;intro v6 w6 b3 a7;have K:Hid (Up M w6):=G.o.grown a7 (by have:=G.o.size;omega) (fun k e=>(Z.o.lt k e).1);have d3:=Hd b3;obtain⟨b0,b1,b2⟩:=(e8.o.bl e8.o.lt K.o).c3;clear b3 a7)
    refine (h9.o w6 K.o).mono ?_;rintro e w7 ⟨v7,rfl,g7,d9⟩;have j2:=Hd g7;have e7:=Hd (Et d3.o d9);have d0:=Hd (K.o.trans (d9.mono K.o.size));clear g7 d9 b0 b1 b2
    go_wp2_with (at_builtin;refine TU (A:=A++[32]) (L:=SB T x) rfl _ _ rfl rfl e7.o rfl j2.o (by simp;omega) d0.o.size ?_;intro v8 w8 g5 f9;have h2:Hid (Up M w8):=d0.o.grown f9 (by have:=d0.o.size;omega) (fun k e=>(e7.o.lt k e).1);have i8:=Hd g5;clear g5 f9)
    go_roundw
    case rel=>exact⟨j+1,by omega,by go_num,by rw[<-d1.o];exact i8.o,h2.o⟩
    simp[intOf];omega
   have z5:decide ((j:Int)<(t.kids.length:Int))=false:=Jc (by omega);have z6:decide (j<t.kids.length)=false:=Jc J;obtain⟨A,hA⟩:=Oa (TR T U t.kids j);have j3:A.length<=20001:=by rw[<-hA];unfold TR;simp only[Yn,Yq,Zn];omega
   have d1:Hid (A++[41]=SB T id):=by
    unfold Hid;rw[HE.o,<-hA];unfold TR;rw[Jl (by omega)]
   rw[hA] at HO;obtain⟨W5,E⟩:=Oa (wq.alloc (.cells #[.int .u8 41] 5));have I:Up wq W5:=by rw[<-E];exact Oz _ _
   have b4:TY W5 (.slice (some ⟨wq.heap.size,0,none⟩) 1 1) [41]:=by rw[<-E];exact TW wq 41
   have d5:=Hd E;have d6:=Hd b4;have Z:=Hd (Et HO.o I);have G:=Hd (HB.o.trans (I.mono HB.o.size));clear hA E I b4
   go_wp2_with (at_builtin;rw[d5.o];refine TU (A:=A) (L:=[41]) rfl _ _ rfl rfl Z.o rfl d6.o (by simp;omega) G.o.size ?_;intro v6 w6 b3 a7;have K:Hid (Up M w6):=G.o.grown a7 (by have:=G.o.size;omega) (fun k e=>(Z.o.lt k e).1);have d3:=Hd b3;clear b3 a7)
   go_ret
   refine⟨_,rfl,?_,b5.o.trans (K.o.mono b5.o.size)⟩;have:=WY d3.o (by simp);rw[d1.o] at this;exact this
end Go.Proofs.YtphhhciffpkojaaGreatDoor
