import Derived.Test.YtjjgilacnocigaaGreatDoorP22
import Derived.Handy
set_option maxRecDepth 100000
set_option maxHeartbeats 8000000
namespace Go.Proofs.YtjjgilacnocigaaGreatDoor
open ChangeShapes WideShapes ChangeAt RowKit Proofs.Tryz
theorem AQ.no {k:SK}{s:ByteArray}{w:World}{v:Value}(hv:MY v)(h:¬ Kg k s):AQ k s w v false:=⟨hv,⟨fun e=>(by cases e),fun e=>absurd e h⟩,fun e=>(by cases e)⟩
theorem Ga {k:SK}{s:ByteArray}(hs:s.size<=2000):Kg k s↔I7 k s:=⟨fun h=>h.2,fun h=>⟨hs,h⟩⟩
def On (X:SI):SK:=⟨X.kind,X.width⟩
theorem N4 (X:SI)(s:ByteArray)(w:World)(hs:s.size<=1048576)(hX:X.kind=4->0<X.width/\X.width<=64)(ht:VT w) :
 Calls prog 21 #[Hj X,.string s] w fun e w'=>∃ v ok,e=.returned (.tuple #[v,.bool ok])/\AQ (On X) s w' v ok/\Up w w':=by
 have HT:=Hd ht;clear ht;obtain⟨W0,J⟩:=O2 (w.alloc (.cells #[.int .i64 X.kind,.int .i64 (X.width:Nat),.string (Oy X.index),.string (Oy X.elem)] 37));have U:Hid (Up w W0):=by unfold Hid;rw[<-J];exact Oo _ _
 have hx:Bx W0 w.heap.size [.int .i64 X.kind,.int .i64 (X.width:Nat),.string (Oy X.index),.string (Oy X.elem)]:=by rw[<-J];exact Ox w _ _
 have I:Hid (VT W0):=HT.o.next (by rw[<-J];exact Oo _ _);have c0:=hx.cell 0;have c1:=hx.cell 1;have O:=Hd J;obtain⟨K,V⟩:=O2 X.kind;have G:Hid (On X=⟨K,X.width⟩):=by unfold Hid On;rw[V]
 have HX:=Hd hX;unfold Hj;rw[V] at c0 O ⊢;have b6:=Hd V;clear hx J V hX
 by_cases hl:2000<s.size
 ·have HN:Hid (¬ Kg (On X) s):=fun h=>by have:=h.1;omega
  go_in
  go_upto_region 1 with fail
  rw[O.o]
  go_wp2
  go_ret2
  exact⟨_,_,rfl,.no (.inl rfl) HN.o,U.o⟩
 have D:s.size<=2000:=by omega
 by_cases H:K=1
 ·subst H;have HS:∀ v ok,(ok=true↔s=trueB∨s=falseB)->v=.iface 83 (.bool (decide (s=trueB)))->AQ (On X) s W0 v ok:=fun v ok h hv=>by
   have e:Kg (On X) s↔(s=trueB∨s=falseB):=by rw[Ga D,G.o];exact Iff.rfl
   refine⟨.inr ⟨_,_,hv⟩,h.trans e.symm,fun ho=>⟨e.2 (h.1 ho),?_⟩⟩;rw[G.o];exact hv
  have e1:(s.toList==[116,114,117,101])=decide (s=trueB):=by rw[<-Q.toList_inj];rw[Je trueB];rfl
  have e2:(s.toList==[102,97,108,115,101])=decide (s=falseB):=by rw[<-Q.toList_inj];rw[Je falseB];rfl
  have H2:=Hd HS;clear HS
  by_cases t1:s=trueB
  ·rw[Jn t1] at e1;have j:=Hd (H2.o _ true ⟨fun _=>.inl t1,fun _=>rfl⟩ rfl);rw[Jn t1] at j;clear e2 t1
   go_in
   go_upto_region 1 with fail
   rw[O.o]
   go_wp2
   go_ret2
   exact⟨_,_,rfl,j.o,U.o⟩
  rw[Jp t1] at e1
  by_cases t2:s=falseB
  case' pos=>
   rw[Jn t2] at e2;have j:=Hd (H2.o _ true ⟨fun _=>.inr t2,fun _=>rfl⟩ rfl)
  case' neg=>
   rw[Jp t2] at e2;have j:=Hd (H2.o _ false ⟨fun h=>(by cases h),fun h=>absurd h (by rintro (h|h);exact t1 h;exact t2 h)⟩ rfl)
  all_goals
   rw[Jp t1] at j;clear t1 t2
   go_in
   go_upto_region 1 with fail
   rw[O.o]
   go_wp2
   go_ret2
   exact⟨_,_,rfl,j.o,U.o⟩
 by_cases T:K=2
 ·subst T;have e:Kg (On X) s↔Q.Ow s=true:=by rw[Ga D,G.o];exact Iff.rfl
  have F:=Hd e;clear e
  go_in
  go_upto_region 1 with fail
  rw[O.o]
  go_wp2_with fail
  by_cases Y:Q.Ow s=true
  ·refine (Q.Ru s _ (by unfold maxLen;omega) Y).mono ?_;rintro e Z ⟨v,rfl,hL,E⟩;have d:=U.up E;have j:Hid (AQ (On X) s Z (.iface 85 (.agg #[.bool (Q.Ko (Q.Ki s) (Q.Ov (Q.Eo (Q.dgs s).data.toList))),v])) true):=by
    refine⟨.inr ⟨_,_,rfl⟩,⟨fun _=>F.o.2 Y,fun _=>rfl⟩,fun _=>⟨F.o.2 Y,?_⟩⟩;rw[G.o];exact⟨_,rfl,Q.Ki s,v,Q.Rf s,rfl,hL.mono (J7 _),Q.O8 _,rfl,Q.BZ s Y⟩
   clear hL E Y
   go_wp2
   go_ret2
   exact⟨_,_,rfl,j.o,d.o⟩
  refine (Q.Ra s _ (by unfold maxLen;omega) (by simpa using Y)).mono ?_;rintro e Z ⟨rfl,E⟩;have d:=U.up E;have j:=Hd Y;clear E Y
  go_wp2
  go_ret2
  exact⟨_,_,rfl,.no (.inr ⟨_,_,rfl⟩) (fun h=>j.o (F.o.1 h)),d.o⟩
 by_cases h3:K=3
 ·subst h3;obtain⟨m,hm⟩:=Q.M9 s;have e:Kg (On X) s↔∃ x y,Q.Qx s m x y:=by
   rw[Ga D,G.o];constructor
   ·rintro⟨m',b9,h⟩;rw[Q.E3 hm b9];exact h.1 rfl
   intro h;exact⟨m,hm,⟨fun _=>h,fun _=>rfl⟩⟩
  have F:=Hd e;have HM:=Hd hm;clear e hm
  go_in
  go_upto_region 1 with fail
  rw[O.o]
  go_wp2_with fail
  refine (Q.Fg s m _ (by unfold maxLen;omega) HM.o I.o.sp I.o.ns I.o.lt).mono ?_;rintro e Z ⟨z,ok,rfl,hR,E⟩;have d:=U.up E;obtain⟨s1,p1,l1,d3,s2,p2,l2,c2,hz⟩:=hR.1;have j:Hid (AQ (On X) s Z (.iface 89 z) ok):=by
   refine⟨.inr ⟨_,_,rfl⟩,hR.2.1.trans F.o.symm,fun ho=>⟨F.o.2 (hR.2.1.1 ho),?_⟩⟩;rw[G.o];obtain⟨x,y,hv,hq⟩:=hR.2.2 ho;exact⟨_,m,x,y,rfl,HM.o,hv,hq.mono (J7 _) O1⟩
  subst hz;clear hR E
  go_wp2
  go_ret2
  exact⟨_,_,rfl,j.o,d.o⟩
 by_cases h4:K=4
 ·subst h4;have hX:=HX.o b6.o;obtain⟨wd,a6⟩:=O2 X.width;rw[a6] at G hX c0 c1 O;have e:Kg (On X) s↔bitsP wd s.data.toList:=by rw[Ga D,G.o];exact Iff.rfl
  have F:=Hd e;have a8:=Hd hX;rw[a6];clear e a6 hX
  go_in
  go_upto_region 1 with fail
  rw[O.o]
  go_wp2_with fail
  refine (Wv wd s _ D a8.o.2 a8.o.1 I.o).mono ?_;rintro e Z ⟨n,ok,rfl,H,T,E⟩;have d:=U.up E;have j:Hid (AQ (On X) s Z (.iface 93 (.agg #[.int .i64 (wd:Nat),.int .u64 n])) ok):=by
   refine⟨.inr ⟨_,_,rfl⟩,H.trans F.o.symm,fun ho=>⟨F.o.2 (H.1 ho),?_⟩⟩;rw[G.o,T ho];rfl
  clear H T E
  go_wp2
  go_ret2
  exact⟨_,_,rfl,j.o,d.o⟩
 by_cases h5:K=5
 ·subst h5;have e:Kg (On X) s↔ownP s.data.toList:=by rw[Ga D,G.o];exact Iff.rfl
  have F:=Hd e;clear e
  go_in
  go_upto_region 1 with fail
  rw[O.o]
  go_wp2_with fail
  refine (Lc s _ D I.o).mono ?_;rintro e Z ⟨n,ok,rfl,H,T,E⟩;have d:=U.up E;obtain⟨x,hx⟩:∃ x:Int,x=(n:Nat):=⟨_,rfl⟩;rw[<-hx];have j:Hid (AQ (On X) s Z (.iface 96 (.int .i64 x)) ok):=by
   refine⟨.inr ⟨_,_,rfl⟩,H.trans F.o.symm,fun ho=>⟨F.o.2 (H.1 ho),?_⟩⟩;rw[G.o,hx,T ho];rfl
  clear H T E hx
  go_wp2
  go_ret2
  exact⟨_,_,rfl,j.o,d.o⟩
 have HN:Hid (¬ Kg (On X) s):=fun h=>by
  have:=h.2;rw[G.o] at this;unfold I7 at this;simp only[H,T,h3,h4,h5,if_false] at this
 have z1:(K==1)=false:=by rw[Jd];exact H
 have z2:(K==2)=false:=by rw[Jd];exact T
 have z3:(K==3)=false:=by rw[Jd];exact h3
 have z4:(K==4)=false:=by rw[Jd];exact h4
 have z5:(K==5)=false:=by rw[Jd];exact h5
 clear H T h3 h4 h5
 go_in
 go_upto_region 1 with fail
 rw[O.o]
 go_wp2
 go_ret2
 exact⟨_,_,rfl,.no (.inl rfl) HN.o,U.o⟩
end Go.Proofs.YtjjgilacnocigaaGreatDoor
namespace Go.Proofs.YtjjgilacnocigaaGreatDoor
open Shelf RowKit Proofs.Tryz
variable {W:World}{g j u:Nat}
theorem RS (x:Int)(w:World)(hx0:(x==0)=false)(key:IntKind.u64.wrap (bits BinOp.and IntKind.u64 x (IntKind.u64.wrap (-x))*285870213051353865) / 288230376151711744=1)(hd:w.cell? ⟨10,1,none⟩=some (.int .u8 1)) :
 Calls prog 252 #[.int .u64 x] w fun e w'=>e=.returned (.int .i64 1)/\w'=w:=by
 go_in
 go_wp2_with (simp only[key])
 go_ret
 exact⟨rfl,rfl⟩
theorem AU (x:Int)(w:World)(hx0:(x==0)=false)(key:IntKind.u64.wrap (bits BinOp.and IntKind.u64 x (IntKind.u64.wrap (-x))*285870213051353865) / 288230376151711744=1)(hd:w.cell? ⟨10,1,none⟩=some (.int .u8 1)) :
 Calls prog 249 #[.int .u64 x] w fun e w'=>e=.returned (.int .i64 1)/\w'=w:=by
 have K:=Hd (RS x w hx0 key hd);clear key hx0 hd
 go_in
 go_wp2_with fail
 refine K.o.mono ?_;rintro e d ⟨rfl,rfl⟩
 go_wp2
 go_ret
 exact⟨rfl,rfl⟩
theorem TJ (w:World)(hd:w.cell? ⟨10,1,none⟩=some (.int .u8 1)) :
 Calls prog 249 #[.int .u64 2] w fun e w'=>e=.returned (.int .i64 1)/\w'=w:=
 AU 2 w rfl (by decide +kernel) hd
theorem FE (x:Int)(w:World)(h0:0<=x)(h1:x<10)(key:(bits BinOp.and IntKind.i64 x (x - 1)==0)=true):Calls prog 248 #[.int .i64 x] w fun e w'=>e=.returned (.bool true)/\w'=w:=by
 go_in
 go_wp2
 go_ret
 exact⟨rfl,rfl⟩
theorem BB (w:World):Calls prog 248 #[.int .i64 2] w fun e w'=>e=.returned (.bool true)/\w'=w:=FE 2 w (by decide) (by decide) (by decide +kernel)
def Mp (u j:Nat):List Value:=List.replicate (65 - j) (.int .u8 0)++(digits2 u j).map (fun c=>.int .u8 (c.toNat:Nat))
theorem IZ (u:Nat):Tryz.zeroCells260=(Mp u 0).toArray:=rfl
theorem OH (u j:Nat)(hj:j<=64):(Mp u j).set (64 - j) (.int .u8 ((Gk u j).toNat:Nat))=Mp u (j+1):=by
 unfold Mp;have e:65 - j=(65 - (j+1))+1:=by omega
 rw[List.set_append_left _ _ (by rw[Zd];omega),e,List.replicate_succ',List.set_append_right _ _ (by rw[Zd];omega),Zd,show 64 - j - (65 - (j+1))=0 by omega];simp[digits2]
def FB (u j:Nat)(v:Int)(g:Nat)(w W:World):Prop:=v=(u / 2 ^ j:Nat)/\(j=0∨2 ^ j<=u)/\Bx W g (Mp u j)/\Below g w W
theorem FB.more {v:Int}{w:World}(h:FB u j v g w W)(hu:u<18446744073709551616)(h2:2<=v)(d:Int)(hd:d=48+v % 2):j<=62/\FB u (j+1) (v / 2) g w (W.setCell ⟨g,64 - j,none⟩ (.int .u8 d)):=by
 obtain⟨F,I,h3,h4⟩:=h;have D:2 ^ (j+1)<=u:=by
  have:2<=u / 2 ^ j:=by omega
  rw[Nat.le_div_iff_mul_le (Ua (by decide))] at this;rw[Ju];omega
 have E:j<=62:=by
  by_cases H:j<=62
  ·exact H
  have:2 ^ 64<=2 ^ (j+1):=J3 (by decide) (by omega);omega
 refine⟨E,?_,.inr D,?_,h4.sc⟩
 ·have G:u / 2 ^ j=v.toNat:=by rw[F];exact (Int.toNat_natCast _).symm
  show v / 2=((u / 2 ^ (j+1):Nat):Int)
  rw[Ju,<-Vf,G];omega
 have e:d=((Gk u j).toNat:Nat):=by rw[Qp,hd,F];omega
 rw[e,<-OH u j (by omega)];exact h3.set _ _
theorem FB.last {v:Int}{w:World}(h:FB u j v g w W)(hj:j<=63)(h2:v<2)(d:Int)(hd:d=48+v):u<2 ^ (j+1)/\(j+1=1∨2 ^ (j+1 - 1)<=u)/\Bx (W.setCell ⟨g,64 - j,none⟩ (.int .u8 d)) g (Mp u (j+1))/\Below g w (W.setCell ⟨g,64 - j,none⟩ (.int .u8 d)):=by
 obtain⟨F,D,h3,h4⟩:=h;have E:u<2 ^ (j+1):=by
  have:u / 2 ^ j<2:=by omega
  rw[U5 (Ua (by decide))] at this;rw[Ju];omega
 refine⟨E,?_,?_,h4.sc⟩
 ·rcases D with rfl|D
  ·exact .inl rfl
  exact .inr D
 have G:u / 2 ^ j=v.toNat:=by rw[F];exact (Int.toNat_natCast _).symm
 have H:0<=v:=by rw[F];exact Uv _
 have e:d=((Gk u j).toNat:Nat):=by rw[Qp,G];omega
 rw[e,<-OH u j (by omega)];exact h3.set _ _
theorem RE (g:Nat)(i:Int)(h0:1<=i)(h1:i<=65)(W:World):(Instr.sliceAt 260 (.pointer (some ⟨g,0,none⟩)) (some (.int .i64 (i - 1))) none none).run prog W=.ok (.slice (some ⟨g,i.toNat - 1,none⟩) (66 - i.toNat) (66 - i.toNat)) W:=by
 have hl:prog.arrayLen 260=65:=by kernel_rfl
 have D:(sizeOf (prog.elem 260)).run prog W=.ok 1 W:=by kernel_rfl
 rw[run_sliceAt_array_l W 260 ⟨g,0,none⟩ underlying260 .i64 (i - 1) (by omega) (by rw[hl];omega),D,hl];simp only[Result.andThen_ok,slicedAt,Addr.add];rw[if_neg (by omega)];have e:(i - 1).toNat=i.toNat - 1:=by omega
 have j:65 - (i.toNat - 1)=66 - i.toNat:=by omega
 rw[e,j,Z7,Y3]
 by_cases d:i.toNat - 1=0
 ·rw[if_pos d,d]
 rw[if_neg d]
theorem PW {m:Nat}(h:Bx W g (Mp u j))(hm:m=65 - j):(convert 22 9 (.slice (some ⟨g,m,none⟩) j j)).run prog W=.ok (.string (Q.Kq (digits2 u j))) W:=by
 have hl:=K5 u j;have:=run_convert_bytes_back (P:=prog) W 22 9 5 ⟨g,m,none⟩ j (digits2 u j) underlying22 underlying5 underlying9 (fun i hi=>by
  rw[hl] at hi;rw[Addr.add_lit,h.cell];unfold Mp;rw[Zp (by rw[Zd];omega),Zd,show m+i - (65 - j)=i by omega,Zh,Jl (by omega)];rfl)
 rw[hl] at this;exact this
theorem M0 (u:Nat)(w:World)(hu:u<18446744073709551616)(hd:w.cell? ⟨10,1,none⟩=some (.int .u8 1)) :
 Calls prog 239 #[.slice none 0 0,.int .u64 (u:Nat),.int .i64 2,.bool false,.bool false] w fun e w'=>∃ k,e=.returned (.tuple #[.slice none 0 0,.string (Q.Kq (digits2 u k))])/\0<k/\u<2 ^ k/\(k=1∨2 ^ (k - 1)<=u)/\Up w w':=by
 have HD:=Hd hd;obtain⟨a,ha⟩:∃ a:Int,a=(u:Nat):=⟨_,rfl⟩;rw[<-ha];have a0:0<=a:=by omega
 have a1:a<18446744073709551616:=by omega
 have HA:=Hd ha;clear hd ha
 go_in
 go_wp2_with fail
 refine (BB _).mono ?_;generalize hW:w.alloc (.cells Tryz.zeroCells260 260)=W1;have O:FB u 0 a w.heap.size w W1:=by
  refine⟨by rw[HA.o];simp,.inl rfl,?_,by rw[<-hW];exact Oo _ _⟩;rw[<-hW,IZ u];exact Ox w _ _
 have V:W1.cell? ⟨10,1,none⟩=some (.int .u8 1):=by rw[<-hW];exact ((Oo w _).cell (Zb w _ HD.o)).trans HD.o
 have a8:=Hd O;have a7:=Hd V;clear hW O V;rintro e w1 ⟨rfl,rfl⟩
 go_wp2_with fail
 refine (TJ _ a7.o).mono ?_;rintro e w1 ⟨rfl,rfl⟩
 go_wp2
 go_loopw [1,13] (fun vu vi W=>∃ (j:Nat) (v i:Int),vu=.int .u64 v/\vi=.int .i64 i/\Hid (i=65 - (j:Nat))/\2<=i/\i<=65/\0<=v/\v<18446744073709551616/\Hid (FB u j v w.heap.size w W)) (fun _ vi _=>(intOf vi).toNat)
 case atStart=>exact⟨0,a,65,rfl,rfl,rfl,by omega,by omega,a0,a1,a8⟩
 obtain⟨j,v,i,rfl,rfl,F,d2,d3,d5,d6,G⟩:=hrel
 by_cases h2:2<=v
 ·obtain⟨hj,hm⟩:=G.o.more hu h2 (48+v % 2) rfl;have T:bits BinOp.and IntKind.u64 v 1=v % 2:=by
   have:=bits_and_u64_nat v.toNat 1 (by omega) (by decide);rw[Nat.and_one_is_mod] at this;have e:((v.toNat:Nat):Int)=v:=by omega
   rw[e] at this;rw[show (1:Int)=((1:Nat):Int) from rfl,this];omega
  have E:wr.cell? ⟨w.heap.size,i.toNat - 1,none⟩=some (.int .u8 0):=by
   rw[G.o.2.2.1.cell];have e:i.toNat - 1=64 - j:=by have:=F.o;omega
   rw[e];unfold Mp;rw[Zk (by rw[Zd];omega),Vn,if_pos (by omega)]
  have d:i.toNat - 1=64 - j:=by have:=F.o;omega
  have Y:wr.frozen? ⟨w.heap.size,i.toNat - 1,none⟩=false:=G.o.2.2.1.fz _;have HI:Hid (i - 1=65 - ((j+1:Nat):Int)):=by have:=F.o;unfold Hid;omega
  have h3:3<=i:=by have:=F.o;omega
  have d7:IntKind.i64.wrap (i - 1)=i - 1:=by rw[IntKind.wrap_i64];omega
  have D:v % 2=0∨v % 2=1:=by omega
  have d4:v / 2<9223372036854775808:=by omega
  have c7:0<=v / 2:=by omega
  rcases D with D|D
  all_goals (
   rw[D] at T hm;rw[<-d] at hm;have K:=Hd hm;clear hm D G d
   go_wp2_with fail
   refine⟨⟨j+1,v / 2,i - 1,rfl,rfl,HI,by omega,by omega,by omega,by omega,K⟩,by simp[intOf];omega⟩)
 have d:i.toNat - 1=64 - j:=by have:=F.o;omega
 have E:wr.cell? ⟨w.heap.size,i.toNat - 1,none⟩=some (.int .u8 0):=by
  rw[G.o.2.2.1.cell,d];unfold Mp;rw[Zk (by rw[Zd];have:=F.o;omega),Vn,if_pos (by have:=F.o;omega)]
 have Y:wr.frozen? ⟨w.heap.size,i.toNat - 1,none⟩=false:=G.o.2.2.1.fz _;have hj:j<=63:=by have:=F.o;omega
 have D:v=0∨v=1:=by omega
 clear h2
 rcases D with rfl|rfl
 all_goals (
  obtain⟨D,Z,I,J⟩:=G.o.last hj (by omega) _ rfl;rw[<-d] at I J;have K:=Hd (And.intro D (And.intro Z (And.intro I J)));have HI:=Hd d;clear D Z I J G d;have b3:=RE w.heap.size i (by omega) (by omega)
  go_wp2_with fail
  generalize H:wr.setCell _ _=WM;have hx:Bx WM w.heap.size (Mp u (j+1)):=by rw[<-H];exact K.o.2.2.1
  have hb:Up w WM:=by rw[<-H];exact K.o.2.2.2
  have hn:66 - i.toNat=j+1:=by have:=F.o;omega
  have U:=PW (m:=i.toNat - 1) hx (by have:=F.o;omega);have HB:=Hd hb;rw[hn];rw[U];clear H hx hb hn b3 E Y U
  go_wp2
  go_ret2
  exact⟨j+1,rfl,by omega,K.o.1,K.o.2.1,HB.o⟩)
end Go.Proofs.YtjjgilacnocigaaGreatDoor
namespace Go.Proofs.YtjjgilacnocigaaGreatDoor
open ChangeShapes WideShapes ChangeAt RowKit Proofs.Tryz
variable {s:ByteArray}
def NC (u:Nat)(S:ByteArray):Prop:=∃ k,S=Q.Kq (digits2 u k)/\0<k/\u<2 ^ k/\(k=1∨2 ^ (k - 1)<=u)
theorem Lr (u:Nat)(w:World)(hu:u<18446744073709551616)(ht:VT w) :
 Calls prog 275 #[.int .u64 (u:Nat),.int .i64 2] w fun e w'=>∃ S,e=.returned (.string S)/\NC u S/\Up w w':=by
 have H:=Hd (M0 u w hu ht.db);clear ht;obtain⟨a,ha⟩:∃ a:Int,a=(u:Nat):=⟨_,rfl⟩;rw[<-ha] at H ⊢;have a0:0<=a:=by omega
 have a1:a<18446744073709551616:=by omega
 clear ha
 go_in
 go_wp2_with fail
 refine H.o.mono ?_;rintro e I ⟨k,rfl,j,D,h3,E⟩;obtain⟨S,d⟩:=O2 (Q.Kq (digits2 u k));have G:Hid (NC u S):=⟨k,d.symm,j,D,h3⟩;have F:=Hd E;rw[d];clear j D h3 E d
 go_wp2
 go_ret
 exact⟨S,rfl,G.o,F.o⟩
theorem M5 (u:Nat)(w:World)(hu:u<18446744073709551616)(ht:VT w) :
 Calls prog 273 #[.int .u64 (u:Nat),.int .i64 2] w fun e w'=>∃ S,e=.returned (.string S)/\NC u S/\Up w w':=by
 have H:=Hd (Lr u w hu ht);clear ht;obtain⟨a,ha⟩:∃ a:Int,a=(u:Nat):=⟨_,rfl⟩;rw[<-ha] at H ⊢;have a0:0<=a:=by omega
 have a1:a<18446744073709551616:=by omega
 clear ha
 go_in
 go_wp2_with fail
 refine H.o.mono ?_;rintro e F ⟨S,rfl,d,j⟩;have E:=Hd d;have D:=Hd j;clear d j
 go_wp2
 go_ret
 exact⟨S,rfl,E.o,D.o⟩
theorem F1 {n k:Nat}(h:n<2 ^ k):∀ d,digits2 n (k+d)=List.replicate d 48++digits2 n k
 | 0=>rfl
 | d+1=>by
   show Gk n (k+d)::digits2 n (k+d)=_
   have e:Gk n (k+d)=48:=by
    have j:2 ^ k<=2 ^ (k+d):=J3 (by decide) (by omega)
    unfold Gk
    rw[Nat.div_eq_of_lt (by omega)];rfl
   rw[e,F1 h d];rfl
theorem Rs:∀ c,Lib.repeatL [48] c=List.replicate c 48
 | 0=>rfl
 | c+1=>by rw[Lib.repeatL,Rs c];rfl
theorem XE {u w:Nat}{S:ByteArray}(h:NC u S)(h0:0<w)(hu:u<2 ^ w):S.size<=w/\Q.Kq (35::98::(List.replicate (w - S.size) 48++S.data.toList))=Ny w u:=by
 obtain⟨k,rfl,E,d,h3⟩:=h;have e:(Q.Kq (digits2 u k)).size=k:=by rw[Q.Kf,K5]
 have D:k<=w:=by
  rcases h3 with rfl|h3
  ·omega
  by_cases j:k<=w
  ·exact j
  have:2 ^ w<=2 ^ (k - 1):=J3 (by decide) (by omega);omega
 rw[e];refine⟨D,?_⟩;unfold Ny;have:=F1 d (w - k);rw[show k+(w - k)=w by omega] at this;rw[this];rfl
theorem Tb (wd n:Nat)(w:World)(h0:0<wd)(h64:wd<=64)(hn:n<2 ^ wd)(ht:VT w) :
 Calls prog 272 #[.agg #[.int .i64 (wd:Nat),.int .u64 (n:Nat)]] w fun e w'=>e=.returned (.string (Ny wd n))/\Up w w':=by
 have hu:n<18446744073709551616:=by
  have:2 ^ wd<=2 ^ 64:=J3 (by decide) h64;omega
 obtain⟨Z,d⟩:=O2 (w.alloc (.cells #[.int .i64 (wd:Nat),.int .u64 (n:Nat)] 93));have HB:Hid (Up w Z):=by unfold Hid;rw[<-d];exact Oo _ _
 have J:Bx Z w.heap.size [.int .i64 (wd:Nat),.int .u64 (n:Nat)]:=by rw[<-d];exact Ox w _ _
 have HC:=Hd (M5 n Z hu (ht.next (by rw[<-d];exact Oo _ _)));have Y:=Hd J;obtain⟨a,ha⟩:∃ a:Int,a=(n:Nat):=⟨_,rfl⟩;obtain⟨wi,j⟩:∃ wi:Int,wi=(wd:Nat):=⟨_,rfl⟩;rw[<-ha,<-j] at Y J d;rw[<-ha] at HC;rw[<-ha,<-j];have c0:=J.cell 0;have c1:=J.cell 1;have HW:=Hd d;have HA:=Hd ha;have F:=Hd j;have c6:0<wi:=by omega
 have c7:wi<=64:=by omega
 clear J d ha j ht
 go_in
 go_upto_region 1 with fail
 rw[HW.o]
 go_wp2_with fail
 refine HC.o.mono ?_;rintro e w1 ⟨S,rfl,hS,hb⟩;obtain⟨a6,H⟩:=XE hS h0 hn;have K:=Y.o.bl Y.o.lt hb;have d0:=K.cell 0;have T:=HB.up hb;have V:=Hd H;have G:(S.size:Int)<=wi:=by rw[F.o];omega
 have D:wi - (S.size:Int)=((wd - S.size:Nat):Int):=by rw[F.o];omega
 have E:=Hd D;clear hS hb K c0 c1 H D
 go_wp2_with fail
 rw[E.o];refine (Tryz.strings_Repeat ⟨#[48]⟩ (wd - S.size) _ (by omega) (by show 1*_<=_;omega)).mono ?_;rintro e w2 ⟨rfl,I⟩;have U:=T.up I;obtain⟨R,O⟩:∃ R:ByteArray,(⟨(Lib.repeatL [48] (wd - S.size)).toArray⟩:ByteArray)=R:=⟨_,rfl⟩;have b7:R.size<=64:=by
  rw[<-O,Rs]
  show (List.replicate (wd - S.size) (48:UInt8)).length<=64
  rw[Zd];omega
 have HT:Hid ((⟨#[35,98]⟩:ByteArray)++R++S=Ny wd n):=by
  unfold Hid;rw[<-V.o,<-O,Rs];refine Kz ?_;rw[Vj,Zr,Vj,Zr];simp[Q.Kq]
 have b8:S.size<=64:=by omega
 rw[show (⟨(Lib.repeatL (⟨#[48]⟩:ByteArray).data.toList (wd - S.size)).toArray⟩:ByteArray)=R from O];clear O I a6 G
 go_wp2
 go_ret
 exact⟨congrArg (fun x=>Ending.returned (.string x)) HT.o,U.o⟩
theorem Db (b:Bool)(w:World) :
 Calls prog 268 #[.bool b] w fun e w'=>e=.returned (.string (if b then trueB else falseB))/\w'=w:=by
 go_in
 go_wp2_with fail
 refine (Tryz.strconv_FormatBool b w).mono ?_;rintro e d ⟨rfl,rfl⟩
 cases b
 all_goals (
  go_wp2
  go_ret
  exact⟨rfl,rfl⟩)
theorem YL (h:Q.Ow s=true):s.size≠0:=by
 have d:=(Q.G1 s h).2.1;have j:=Q.Ma s;omega
theorem RL {u:ByteArray}{m:Option Nat}{x y:Int}(hm:Q.Nq s m)(hv:Q.Qx s m x y)(hu:Q.Xn x y u):u=s:=by
 cases m with
 | none=>
   obtain⟨d,j,h3⟩:=hv;unfold Q.Xn at hu;rw[if_pos h3] at hu;rw[j] at hu;exact hu.eq (Q.Nk s d)
 | some i=>
   obtain⟨d,j,h3,h4⟩:=hv;have F:y≠1:=fun e=>j.2.2.1 (Q.H9 _ _ d.2 (by kernel_rfl) ((h4.symm.trans e).trans Q.Mo.symm));unfold Q.Xn at hu;rw[if_neg F] at hu;obtain⟨p,q,D,E,rfl⟩:=hu;rw[h3] at D;rw[h4] at E;obtain rfl:=D.eq (Q.Nk _ d.1);obtain rfl:=E.eq (Q.Nk _ d.2);rw[if_neg (by rintro (h|h);exact YL d.1 h;exact YL d.2 h)];refine Kz ?_;rw[Vj,Zr,Vj,Zr,D3 hm];simp
theorem Ry {k:SK}{v:Value}{w:World}(h:PV k w v s)(hk:k.kind=4->0<k.width/\k.width<=64) :
 ∃ tx zx f,v=.iface tx zx/\(∀ W,(method 395 tx zx "loop.example/g00007/impl.text").run prog W=.ok (f,zx) W)/\(∀ W,(callFunc f #[zx]).run prog W=.ok (.enter f #[zx]) W)/\∀ W,Up w W->VT W->Calls prog f #[zx] W fun e w'=>e=.returned (.string s)/\Up W w':=by
 obtain⟨H,h⟩:=h;have d:=H.2;unfold I7 at d
 split at h
 ·rename_i k1;rw[if_pos k1] at d;subst h;refine⟨_,_,268,rfl,fun W=>by kernel_rfl,fun W=>by kernel_rfl,fun w hbw ht=>?_⟩;refine (Db _ w).mono ?_;rintro e D ⟨rfl,rfl⟩;refine⟨?_,Jj _ _⟩
  rcases d with rfl|rfl<;>rfl
 rename_i k1;rw[if_neg k1] at d
 split at h
 ·rename_i k2;rw[if_pos k2] at d;obtain⟨z,rfl,neg,u,t,rfl,E,J,I,O⟩:=h;refine⟨_,_,135,rfl,fun W=>by kernel_rfl,fun W=>by kernel_rfl,fun w hbw ht=>?_⟩;have K:=E.bl hbw;refine (Q.UY 0 _ u t w K (by omega) ht.lt).mono ?_;rintro e D ⟨rfl,j⟩;refine⟨?_,j⟩;obtain⟨a,cap,_,_,_,G,_⟩:=K;have e:Q.Ec (Q.K9 s) (Q.Cb (Q.Ko neg t) t):=⟨neg,t,G,J,I,rfl⟩;rw[e.eq (Q.Nk s d)]
 rename_i k2;rw[if_neg k2] at d
 split at h
 ·obtain⟨z,m,x,y,rfl,hm,Z,V⟩:=h;refine⟨_,_,271,rfl,fun W=>by kernel_rfl,fun W=>by kernel_rfl,fun w hbw ht=>?_⟩;refine (Q.RF 0 z x y 300 w (J7 _) (V.bl hbw) (by decide) ht.sp ht.lt).mono ?_;rintro e D ⟨u,rfl,Y,j⟩;exact⟨by rw[RL hm Z Y],j⟩
 rename_i k3;rw[if_neg k3] at d
 split at h
 ·rename_i k4;rw[if_pos k4] at d;subst h;refine⟨_,_,272,rfl,fun W=>by kernel_rfl,fun W=>by kernel_rfl,fun w hbw ht=>?_⟩;obtain⟨n,hn,F⟩:=Bh k4 H;have e:bn 2 (s.data.toList.drop 2)=n:=by
   unfold key at hn;rw[if_neg k2,if_pos k4] at hn;omega
  rw[e];refine (Tb k.width n w (hk k4).1 (hk k4).2 F ht).mono ?_;rintro e D ⟨rfl,j⟩;exact⟨by rw[<-Df k4 (hk k4).2 H hn],j⟩
 rename_i k4;rw[if_neg k4] at d
 split at d
 ·subst h;obtain⟨T,U⟩:=ZT d;refine⟨_,_,91,rfl,fun W=>by kernel_rfl,fun W=>by kernel_rfl,fun w hbw ht=>?_⟩;refine (D9 _ w U ht).mono ?_;rintro e D ⟨rfl,j⟩;exact⟨by rw[T],j⟩
 exact d.elim
theorem CF (x:Int)(w:World):Calls prog 142 #[.int .i64 x] w fun e w'=>e=.returned (.bool false)/\w'=w:=by
 go_in
 go_wp2
 go_ret
 exact⟨rfl,rfl⟩
theorem CL (x:Int)(w:World):Calls prog 143 #[.int .u64 x] w fun e w'=>e=.returned (.bool false)/\w'=w:=by
 go_in
 go_wp2
 go_ret
 exact⟨rfl,rfl⟩
theorem Ek (x y:Int):(x<y/\Q.Nc x y = -1)∨(x=y/\Q.Nc x y=0)∨(y<x/\Q.Nc x y=1):=by
 unfold Q.Nc
 rcases Int.lt_trichotomy x y with h|h|h
 ·exact .inl ⟨h,if_pos h⟩
 ·exact .inr (.inl ⟨h,by rw[if_neg (by omega),if_neg (by omega)]⟩)
 exact .inr (.inr ⟨h,by rw[if_neg (by omega),if_pos h]⟩)
theorem PB (x y:Int)(w:World):Calls prog 97 #[.int .i64 x,.int .i64 y] w fun e w'=>e=.returned (.int .i64 (Q.Nc x y))/\w'=w:=by
 rcases Ek x y with⟨h,e⟩|⟨h,e⟩|⟨h,e⟩
 all_goals (
  rw[e];clear e
  go_in
  go_wp2_with (refine (CF _ _).mono ?_;rintro e w' ⟨rfl,rfl⟩)
  go_ret
  exact⟨rfl,rfl⟩)
theorem PS (x y:Int)(w:World):Calls prog 98 #[.int .u64 x,.int .u64 y] w fun e w'=>e=.returned (.int .i64 (Q.Nc x y))/\w'=w:=by
 rcases Ek x y with⟨h,e⟩|⟨h,e⟩|⟨h,e⟩
 all_goals (
  rw[e];clear e
  go_in
  go_wp2_with (refine (CL _ _).mono ?_;rintro e w' ⟨rfl,rfl⟩)
  go_ret
  exact⟨rfl,rfl⟩)
def Wj (k:SK)(s t:ByteArray)(c:Int):Prop:=(c=0↔s=t)/\(Gm k->c=Q.Nc (key k s) (key k t)) /\ -1<=c/\c<=1
theorem B1 (x y:Int):Q.Nc x y=0↔x=y:=by
 rcases Ek x y with⟨h,e⟩|⟨h,e⟩|⟨h,e⟩<;>rw[e]<;>omega
theorem My (x y:Int) : -1<=Q.Nc x y/\Q.Nc x y<=1:=by
 rcases Ek x y with⟨h,e⟩|⟨h,e⟩|⟨h,e⟩<;>rw[e]<;>omega
theorem Md {k:SK}{t:ByteArray}(hk:Gm k)(hs:Kg k s)(ht:Kg k t):Wj k s t (Q.Nc (key k s) (key k t)):=
 ⟨(B1 _ _).trans ⟨fun h=>Qw hk hs ht h,fun h=>by rw[h]⟩,fun _=>rfl,(My _ _).1,(My _ _).2⟩
theorem SF (v:Value)(w:World):(Instr.typeAssert (.iface 85 v) 47 85 true).run prog w=.ok (.tuple #[v,.bool true]) w:=by kernel_rfl
theorem PR (v:Value)(w:World):(Instr.typeAssert (.iface 85 v) 47 85 false).run prog w=.ok v w:=by kernel_rfl
theorem SL (v:Value)(w:World):(Instr.typeAssert (.iface 85 v) 47 89 true).run prog w=.ok (.tuple #[.agg #[.bool false,.slice none 0 0,.bool false,.slice none 0 0],.bool false]) w:=by kernel_rfl
theorem SC (v:Value)(w:World):(Instr.typeAssert (.iface 85 v) 47 96 true).run prog w=.ok (.tuple #[.int .i64 0,.bool false]) w:=by kernel_rfl
theorem SR (v:Value)(w:World):(Instr.typeAssert (.iface 85 v) 47 93 true).run prog w=.ok (.tuple #[.agg #[.int .i64 0,.int .u64 0],.bool false]) w:=by kernel_rfl
theorem SA (v:Value)(w:World):(Instr.typeAssert (.iface 89 v) 47 85 true).run prog w=.ok (.tuple #[.agg #[.bool false,.slice none 0 0],.bool false]) w:=by kernel_rfl
theorem SW (v:Value)(w:World):(Instr.typeAssert (.iface 89 v) 47 89 true).run prog w=.ok (.tuple #[v,.bool true]) w:=by kernel_rfl
theorem PP (v:Value)(w:World):(Instr.typeAssert (.iface 89 v) 47 89 false).run prog w=.ok v w:=by kernel_rfl
theorem SB (v:Value)(w:World):(Instr.typeAssert (.iface 89 v) 47 96 true).run prog w=.ok (.tuple #[.int .i64 0,.bool false]) w:=by kernel_rfl
theorem SM (v:Value)(w:World):(Instr.typeAssert (.iface 89 v) 47 93 true).run prog w=.ok (.tuple #[.agg #[.int .i64 0,.int .u64 0],.bool false]) w:=by kernel_rfl
theorem SX (v:Value)(w:World):(Instr.typeAssert (.iface 96 v) 47 85 true).run prog w=.ok (.tuple #[.agg #[.bool false,.slice none 0 0],.bool false]) w:=by kernel_rfl
theorem SQ (v:Value)(w:World):(Instr.typeAssert (.iface 96 v) 47 89 true).run prog w=.ok (.tuple #[.agg #[.bool false,.slice none 0 0,.bool false,.slice none 0 0],.bool false]) w:=by kernel_rfl
theorem SH (v:Value)(w:World):(Instr.typeAssert (.iface 96 v) 47 96 true).run prog w=.ok (.tuple #[v,.bool true]) w:=by kernel_rfl
theorem PQ (v:Value)(w:World):(Instr.typeAssert (.iface 96 v) 47 96 false).run prog w=.ok v w:=by kernel_rfl
theorem SG (v:Value)(w:World):(Instr.typeAssert (.iface 96 v) 47 93 true).run prog w=.ok (.tuple #[.agg #[.int .i64 0,.int .u64 0],.bool false]) w:=by kernel_rfl
theorem SU (v:Value)(w:World):(Instr.typeAssert (.iface 93 v) 47 85 true).run prog w=.ok (.tuple #[.agg #[.bool false,.slice none 0 0],.bool false]) w:=by kernel_rfl
theorem SN (v:Value)(w:World):(Instr.typeAssert (.iface 93 v) 47 89 true).run prog w=.ok (.tuple #[.agg #[.bool false,.slice none 0 0,.bool false,.slice none 0 0],.bool false]) w:=by kernel_rfl
theorem SV (v:Value)(w:World):(Instr.typeAssert (.iface 93 v) 47 96 true).run prog w=.ok (.tuple #[.int .i64 0,.bool false]) w:=by kernel_rfl
theorem SZ (v:Value)(w:World):(Instr.typeAssert (.iface 93 v) 47 93 true).run prog w=.ok (.tuple #[v,.bool true]) w:=by kernel_rfl
theorem PX (v:Value)(w:World):(Instr.typeAssert (.iface 93 v) 47 93 false).run prog w=.ok v w:=by kernel_rfl
theorem TY (v:Value)(w:World):(Instr.typeAssert (.iface 83 v) 47 85 true).run prog w=.ok (.tuple #[.agg #[.bool false,.slice none 0 0],.bool false]) w:=by kernel_rfl
theorem TZ (v:Value)(w:World):(Instr.typeAssert (.iface 83 v) 47 89 true).run prog w=.ok (.tuple #[.agg #[.bool false,.slice none 0 0,.bool false,.slice none 0 0],.bool false]) w:=by kernel_rfl
theorem TO (v:Value)(w:World):(Instr.typeAssert (.iface 83 v) 47 96 true).run prog w=.ok (.tuple #[.int .i64 0,.bool false]) w:=by kernel_rfl
theorem SJ (v:Value)(w:World):(Instr.typeAssert (.iface 83 v) 47 93 true).run prog w=.ok (.tuple #[.agg #[.int .i64 0,.int .u64 0],.bool false]) w:=by kernel_rfl
attribute [local go_sem] SF PR SL SC SR SA SW PP SB SM SX SQ SH PQ SG SU SN SV SZ PX TY TZ TO SJ
theorem I5 (k:SK)(v v':Value)(s t:ByteArray)(w:World)(hs:PV k w v s)(ht:PV k w v' t)(hk:k.kind=4->0<k.width/\k.width<=64)(hT:VT w) :
 Calls prog 56 #[v,v'] w fun e w'=>∃ c,e=.returned (.int .i64 c)/\Wj k s t c/\Up w w':=by
 have I:=Hd hs;have J:=Hd ht;have HT:=Hd hT;have HK:=Hd hk;clear hk hT;obtain⟨T,hs⟩:=hs;obtain⟨U,ht⟩:=ht;have d:=T.2;have j:=U.2;unfold I7 at d j
 by_cases k1:k.kind=1
 ·rw[if_pos k1] at hs ht d j;subst hs ht;have d1:decide (trueB=trueB)=true:=by decide
  have d2:decide (falseB=trueB)=false:=by decide
  have hc:Wj k s t (Lib.compareBytes s.data.toList t.data.toList):=by
   have hn:¬ Gm k:=by rintro (h|h|h)<;>omega
   rcases d with rfl|rfl<;>rcases j with rfl|rfl<;>exact⟨by decide,fun h=>absurd h hn,by decide,by decide⟩
  have H:=Hd hc;clear T U k1 hc I J HT HK
  rcases d with rfl|rfl<;>rcases j with rfl|rfl
  all_goals (
   (try rw[d1])
   (try rw[d2])
   clear d1 d2
   go_in
   go_wp2_with (first|(refine (Db _ _).mono ?_;rintro e w' ⟨rfl,rfl⟩)|(refine (Tryz.strings_Compare _ _ _).mono ?_;rintro e w' ⟨rfl,rfl⟩))
   go_ret
   exact⟨_,rfl,H.o,Jj _ _⟩)
 rw[if_neg k1] at hs ht d j
 by_cases k2:k.kind=2
 ·rw[if_pos k2] at hs ht;obtain⟨z,rfl,hz⟩:=hs;obtain⟨z',rfl,F⟩:=ht;have H:Hid (Wj k s t (Q.Nc (Q.K9 s) (Q.K9 t))):=by
   have:=Md (.inl k2) T U;unfold key at this;simp only[k2] at this;exact this
  obtain⟨b1,p1,l1,c1,rfl⟩:=hz.shape;obtain⟨b2,p2,l2,c2,rfl⟩:=F.shape;have HZ:=Hd (And.intro hz F);clear hz F d j T U k1 k2 I J
  go_in
  go_wp2_with fail
  generalize K:w.alloc _=O;have G:Up w O:=by rw[<-K];exact Oo _ _
  have D:Bx O w.heap.size [.bool b1,.slice p1 l1 c1]:=by rw[<-K];exact Ox w _ _
  have C:=Hd (Q.Dt 0 _ _ _ _ 300 300 O.drew (HZ.o.1.bl G.drew) (HZ.o.2.bl G.drew) (HT.o.sp.bl G.drew));have HX:=Hd D.drew;have HB:=Hd G.drew;obtain⟨d0,d1⟩:=D.c2;clear K G D
  go_region_held3 (fun W=>W.cell? ⟨w.heap.size,0,none⟩=some (.bool b1)/\W.cell? ⟨w.heap.size,1,none⟩=some (.slice p1 l1 c1)) (first
   | assumption|exact⟨by assumption,by assumption⟩|go_keep) (first
   | (go_at_call 95;refine C.o.mono ?_;rintro e w2 ⟨rfl,E⟩;have V:=HB.up E;have hS:=(HX.o.bl HX.o.lt E).c2;clear E))
  all_goals (go_wp2;go_ret;exact⟨_,rfl,H.o,V.o⟩)
 rw[if_neg k2] at hs ht d j
 by_cases k3:k.kind=3
 ·rw[if_pos k3] at hs ht;obtain⟨z,m,x,y,rfl,hm,hv,hz⟩:=hs;obtain⟨z',m',x',y',rfl,Y,Z,F⟩:=ht;have H:Hid (Wj k s t (Q.Nc (x*y') (x'*y))):=by
   refine⟨(B1 _ _).trans ⟨fun h=>BA hm Y hv Z h,fun h=>?_⟩,fun h=>?_,(My _ _).1,(My _ _).2⟩
   ·subst h;rw[Q.E3 hm Y] at hv;obtain⟨rfl,rfl⟩:=Q.Lv hv Z;rfl
   rcases h with h|h|h<;>omega
  obtain⟨b1,p1,l1,c1,b2,p2,l2,c2,rfl,_⟩:=hz.shape;obtain⟨b3,p3,l3,c3,b4,p4,l4,c4,rfl,_⟩:=F.shape;have HZ:=Hd (And.intro hz F);clear hz F d j T U k1 k2 k3 I J hm Y hv Z
  go_in
  go_wp2_with fail
  generalize K:w.alloc _=O;have G:Up w O:=by rw[<-K];exact Oo _ _
  have D:Bx O w.heap.size [.bool b1,.slice p1 l1 c1,.bool b2,.slice p2 l2 c2]:=by rw[<-K];exact Ox w _ _
  have C:=Hd (Q.Ta 0 _ _ _ _ _ _ 300 O.drew (J7 _) (HZ.o.1.bl G.drew) (HZ.o.2.bl G.drew) (by decide) (HT.o.sp.bl G.drew));have HX:=Hd D.drew;have HB:=Hd G.drew;obtain⟨d0,d1,d2,d3⟩:=D.c4;clear K G D
  go_region_held3 (fun W=>W.cell? ⟨w.heap.size,0,none⟩=some (.bool b1)/\W.cell? ⟨w.heap.size,1,none⟩=some (.slice p1 l1 c1)/\W.cell? ⟨w.heap.size,2,none⟩=some (.bool b2)/\W.cell? ⟨w.heap.size,3,none⟩=some (.slice p2 l2 c2)) (first
   | assumption|exact⟨by assumption,by assumption,by assumption,by assumption⟩|go_keep) (first
   | (go_at_call 96;refine C.o.mono ?_;rintro e w2 ⟨rfl,E⟩;have V:=HB.up E;have hS:=(HX.o.bl HX.o.lt E).c4;clear E))
  all_goals (go_wp2;go_ret;exact⟨_,rfl,H.o,V.o⟩)
 rw[if_neg k3] at hs ht d j
 by_cases k4:k.kind=4
 ·rw[if_pos k4] at hs ht;subst hs ht;have H:Hid (Wj k s t (Q.Nc (bn 2 (s.data.toList.drop 2):Nat) (bn 2 (t.data.toList.drop 2):Nat))):=by
   have:=Md (.inr (.inl k4)) T U;unfold key at this;simp only[k4] at this;exact this
  obtain⟨x,D⟩:∃ x:Int,x=(bn 2 (s.data.toList.drop 2):Nat):=⟨_,rfl⟩;obtain⟨y,hy⟩:∃ y:Int,y=(bn 2 (t.data.toList.drop 2):Nat):=⟨_,rfl⟩;obtain⟨wi,b9⟩:∃ y:Int,y=(k.width:Nat):=⟨_,rfl⟩;rw[<-D,<-hy] at H;rw[<-D,<-hy,<-b9];clear d j T U k1 k2 k3 k4 I J D hy b9
  go_in
  go_wp2_with fail
  generalize K:w.alloc _=O;have G:Up w O:=by rw[<-K];exact Oo _ _
  have D:Bx O w.heap.size [.int .i64 wi,.int .u64 x]:=by rw[<-K];exact Ox w _ _
  have HB:=Hd G.drew;obtain⟨d0,d1⟩:=D.c2;have e3:∀ W,(Instr.field 93 (.agg #[.int .i64 wi,.int .u64 y]) 1).run prog W=.ok (.int .u64 y) W:=fun W=>by kernel_rfl
  clear K G D
  go_region_held3 (fun W=>W.cell? ⟨w.heap.size,0,none⟩=some (.int .i64 wi)/\W.cell? ⟨w.heap.size,1,none⟩=some (.int .u64 x)) (first
   | assumption|exact⟨by assumption,by assumption⟩|go_keep) (first
   | (go_at_call 98;refine (PS x y _).mono ?_;rintro e w2 ⟨rfl,rfl⟩))
  all_goals (go_wp2;go_ret;exact⟨_,rfl,H.o,HB.o⟩)
 rw[if_neg k4] at hs ht d j;have k5:k.kind=5:=by
  by_cases h:k.kind=5
  ·exact h
  rw[if_neg h] at d;exact d.elim
 subst hs ht;have H:Hid (Wj k s t (Q.Nc (Q.N7 (s.data.toList.drop 1):Nat) (Q.N7 (t.data.toList.drop 1):Nat))):=by
  have:=Md (.inr (.inr k5)) T U;unfold key at this;simp only[k5] at this;exact this
 obtain⟨x,D⟩:∃ x:Int,x=(Q.N7 (s.data.toList.drop 1):Nat):=⟨_,rfl⟩;obtain⟨y,hy⟩:∃ y:Int,y=(Q.N7 (t.data.toList.drop 1):Nat):=⟨_,rfl⟩;rw[<-D,<-hy] at H;rw[<-D,<-hy];clear d j T U k1 k2 k3 k4 I J D hy
 go_in
 go_wp2_with (refine (PB x y _).mono ?_;rintro e w2 ⟨rfl,rfl⟩)
 go_ret
 exact⟨_,rfl,H.o,Jj _ _⟩
end Go.Proofs.YtjjgilacnocigaaGreatDoor
