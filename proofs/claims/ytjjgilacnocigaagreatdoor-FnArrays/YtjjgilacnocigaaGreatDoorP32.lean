import Derived.Test.YtjjgilacnocigaaGreatDoorP31
import Derived.Test.YtjjgilacnocigaaGreatDoorP16
set_option maxRecDepth 100000
set_option maxHeartbeats 8000000
namespace Go.Proofs.YtjjgilacnocigaaGreatDoor
open ChangeShapes WideShapes ChangeAt RowKit Proofs.Tryz
variable {s:ByteArray}{w:World}
theorem OJ (c:UInt8):dg c=Q.Ey c:=by unfold dg Q.Ey;simp
theorem LF (l:List UInt8):Ct l=Q.N7 l:=rfl
theorem C5 (l:List UInt8):(0<=Ik l↔C4 l)/\(C4 l->Ik l=(Q.N7 l:Nat)):=by
 have j:l.all dg=true↔∀ c∈l,Q.Ey c=true:=by
  rw[Zt];exact⟨fun h c hc=>by rw[<-OJ];exact h c hc,fun h c hc=>by rw[OJ];exact h c hc⟩
 unfold Ik C4
 by_cases D:l.length=0∨6<l.length∨(1<l.length/\l.head? = some 48)
 ·rw[if_pos D];have hn:¬ (0<l.length/\l.length<=6/\(∀ c∈l,Q.Ey c=true)/\(l.head? = some 48->l.length=1)):=by
   rintro⟨a,b,_,d⟩
   rcases D with h|h|⟨h,F⟩
   ·omega
   ·omega
   have:=d F;omega
  exact⟨⟨fun h=>by omega,fun h=>absurd h hn⟩,fun h=>absurd h hn⟩
 rw[if_neg D];have E:0<l.length/\l.length<=6/\(l.head? = some 48->l.length=1):=by
  refine⟨by omega,by omega,fun h=>?_⟩
  by_cases G:1<l.length
  ·exact absurd (.inr (.inr ⟨G,h⟩)) D
  omega
 by_cases ha:l.all dg=true
 ·rw[if_pos ha];exact⟨⟨fun _=>⟨E.1,E.2.1,j.1 ha,E.2.2⟩,fun _=>by omega⟩,fun _=>by rw[LF]⟩
 rw[if_neg ha];have hn:¬ (0<l.length/\l.length<=6/\(∀ c∈l,Q.Ey c=true)/\(l.head? = some 48->l.length=1)):=fun h=>ha (j.2 h.2.2.1);exact⟨⟨fun h=>by omega,fun h=>absurd h hn⟩,fun h=>absurd h hn⟩
def PH (X:SI)(s:ByteArray)(w:World)(e:Ending)(w':World):Prop:=∃ b,e=.returned (.bool b)/\(b=true↔Kg (On X) s)/\Up w w'
theorem PH.yes {X:SI}{w':World}(h:Kg (On X) s)(hb:Up w w'):PH X s w (.returned (.bool true)) w':=⟨_,rfl,⟨fun _=>h,fun _=>rfl⟩,hb⟩
theorem PH.no {X:SI}{w':World}(h:¬ Kg (On X) s)(hb:Up w w'):PH X s w (.returned (.bool false)) w':=⟨_,rfl,⟨fun e=>(by cases e),fun e=>absurd e h⟩,hb⟩
theorem MK {wd:Nat}(hl:s.size=wd+2)(h2:1<s.size):bitsP wd s.data.toList↔s[0]=35/\s[1]=98/\∀ j (h:j<s.size),2<=j->If s[j]=true:=by
 have E:s.data.toList.length=wd+2:=hl;have e:s.data.toList.take 2=[s[0],s[1]]:=by
  apply List.ext_getElem
  ·simp;omega
  intro i F h2;have:i=0∨i=1:=by simp at h2;omega
  rcases this with rfl|rfl
  ·rw[Zn];rfl
  rw[Zn];rfl
 unfold bitsP;rw[e];constructor
 ·rintro⟨h,_,d⟩;simp only[List.cons.injEq,and_true] at h;refine⟨h.1,h.2,fun j hj hj2=>?_⟩;refine d _ (List.mem_iff_getElem.2 ⟨j - 2,by rw[Jr];have:s.data.toList.length=s.size:=rfl;omega,?_⟩);rw[Zm];simp only[show 2+(j - 2)=j by omega];rfl
 rintro⟨G,F,d⟩;refine⟨by rw[G,F],E,fun c hc=>?_⟩;obtain⟨j,hj,rfl⟩:=Ym hc;rw[Jr] at hj;have D:2+j<s.size:=by have:s.data.toList.length=s.size:=rfl;omega
 rw[Zm];exact d (2+j) D (by omega)
theorem Wm {c d:UInt8}(m:Int)(hd:(d.toNat:Int)=m)(h:¬ c=d):((c.toNat:Int) != m)=true:=by
 rw[bne_iff_ne];intro e;exact h (UInt8.toNat_inj.1 (by omega))
theorem Wl {c d:UInt8}(m:Int)(hd:(d.toNat:Int)=m)(h:c=d):((c.toNat:Int) != m)=false:=by
 subst h;rw[hd];simp
theorem Gq (X:SI)(s:ByteArray)(w:World)(hs:s.size<=1048576)(hX:Cw X) :
 Calls prog 26 #[Hj X,.string s] w fun e w'=>PH X s w e w':=by
 obtain⟨W0,Z⟩:=O2 (w.alloc (.cells #[.int .i64 X.kind,.int .i64 (X.width:Nat),.string (Oy X.index),.string (Oy X.elem)] 37));have F:Hid (Up w W0):=by unfold Hid;rw[<-Z];exact Oo _ _
 have hx:Bx W0 w.heap.size [.int .i64 X.kind,.int .i64 (X.width:Nat),.string (Oy X.index),.string (Oy X.elem)]:=by rw[<-Z];exact Ox w _ _
 have c0:=hx.cell 0;have c1:=hx.cell 1;have E:=Hd Z;obtain⟨V,a6⟩:=O2 X.kind;have HK:Hid (On X=⟨V,X.width⟩):=by unfold Hid On;rw[a6]
 have HX:=Hd hX;unfold Hj;rw[a6] at c0 E ⊢;have d0:=Hd a6;clear hx Z a6 hX
 by_cases hl:2000<s.size
 ·have G:Hid (¬ Kg (On X) s):=fun h=>by have:=h.1;omega
  go_in
  go_upto_region 1 with fail
  rw[E.o]
  go_wp2
  go_ret
  exact .no G.o F.o
 have U:s.size<=2000:=by omega
 by_cases h1:V=1
 ·subst h1;have e:Kg (On X) s↔(s=trueB∨s=falseB):=by rw[Ga U,HK.o];exact Iff.rfl
  have D:=Hd e;have e1:(s.toList==[116,114,117,101])=decide (s=trueB):=by rw[<-Q.toList_inj];rw[Je trueB];rfl
  have e2:(s.toList==[102,97,108,115,101])=decide (s=falseB):=by rw[<-Q.toList_inj];rw[Je falseB];rfl
  clear e
  by_cases t1:s=trueB
  ·rw[Jn t1] at e1;have HR:=Hd (D.o.2 (.inl t1));clear e2 t1
   go_in
   go_upto_region 1 with fail
   rw[E.o]
   go_wp2
   go_ret
   exact .yes HR.o F.o
  rw[Jp t1] at e1
  by_cases t2:s=falseB
  ·rw[Jn t2] at e2;have HR:=Hd (D.o.2 (.inr t2));clear t1 t2
   go_in
   go_upto_region 1 with fail
   rw[E.o]
   go_wp2
   go_ret
   exact .yes HR.o F.o
  rw[Jp t2] at e2;have HR:Hid (¬ Kg (On X) s):=fun h=>by rcases D.o.1 h with h|h;exact t1 h;exact t2 h
  clear t1 t2
  go_in
  go_upto_region 1 with fail
  rw[E.o]
  go_wp2
  go_ret
  exact .no HR.o F.o
 by_cases h2:V=2
 ·subst h2;have e:Kg (On X) s↔Q.Ow s=true:=by rw[Ga U,HK.o];exact Iff.rfl
  have D:=Hd e;clear e
  go_in
  go_upto_region 1 with fail
  rw[E.o]
  go_wp2_with fail
  refine (Q.Qm s _ (by unfold maxLen;omega)).mono ?_;rintro e w1 ⟨rfl,rfl⟩;obtain⟨b,hb⟩:=O2 (Q.Ow s);rw[hb] at D ⊢;clear hb
  go_wp2
  go_ret
  exact⟨b,rfl,D.o.symm,F.o⟩
 by_cases h3:V=3
 ·subst h3;have e:Kg (On X) s↔Q.Hr s true:=by rw[Ga U,HK.o];exact Iff.rfl
  have D:=Hd e;clear e
  go_in
  go_upto_region 1 with fail
  rw[E.o]
  go_wp2_with fail
  refine (Q.A5 s _ (by unfold maxLen;omega)).mono ?_;rintro e w1 ⟨b,rfl,hr,hb⟩;have c6:=F.up hb;have HR:Hid (b=true↔Kg (On X) s):=by
   refine Iff.trans ?_ D.o.symm
   cases b
   ·exact⟨fun e=>(by cases e),fun e=>Q.Ab hr e⟩
   exact⟨fun _=>hr,fun _=>rfl⟩
  clear hr hb
  go_wp2
  go_ret
  exact⟨b,rfl,HR.o,c6.o⟩
 by_cases h5:V=5
 ·subst h5;have e:Kg (On X) s↔ownP s.data.toList:=by rw[Ga U,HK.o];exact Iff.rfl
  have D:=Hd e;clear e
  by_cases hz:s.size<=1
  ·have G:Hid (¬ Kg (On X) s):=fun h=>by
    have h:=(D.o.1 h).2.1;rw[Jr,<-Lib.size_eq] at h;omega
   have z1:¬ ((1:Int)<(s.size:Int)):=by omega
   go_in
   go_upto_region 1 with fail
   rw[E.o]
   go_wp2
   go_ret
   exact .no G.o F.o
  have g0:1<s.size:=by omega
  have g6:(1:Int)<(s.size:Int):=by omega
  have hd:s.data.toList.head? = some s[0]:=Ns s (by omega)
  by_cases J:s[0]=64
  ·have q0:((s[0].toNat:Int)==64)=true:=by rw[J];rfl
   obtain⟨T,hT⟩:=O2 (s.extract 1 s.size);have d2:Hid (T.data.toList=s.data.toList.drop 1):=by
    unfold Hid;rw[<-hT];simp only[Y6,Zf,Zs];exact Jf (by rw[Jr];exact O1)
   have d3:Hid (T.size<=1048576):=by unfold Hid;rw[<-hT,Yj];omega
   have d1:Hid (Kg (On X) s↔C4 T.data.toList):=by
    refine D.o.trans ?_;unfold ownP;rw[d2.o,hd,J];exact⟨fun h=>h.2,fun h=>⟨rfl,h⟩⟩
   clear J hd
   go_in
   go_upto_region 1 with fail
   rw[E.o]
   go_wp2_with fail
   refine (Pv T _ (by have:=d3.o;unfold maxLen;omega)).mono ?_;rintro e w1 ⟨rfl,rfl⟩;have b4:=C5 T.data.toList;obtain⟨d,b7⟩:=O2 (Ik T.data.toList);rw[b7] at b4 ⊢;have c8:=Hd b4;clear b7 b4;have HY:Hid (decide (0<=d)=true↔Kg (On X) s):=by
    rw[Hid,J2];exact c8.o.1.trans d1.o.symm
   go_wp2
   go_ret
   exact⟨_,rfl,HY.o,F.o⟩
  have q0:((s[0].toNat:Int)==64)=false:=by rw[Jd];intro e;exact J (UInt8.toNat_inj.1 (by show s[0].toNat=64;omega))
  have G:Hid (¬ Kg (On X) s):=fun h=>by
   have h:=(D.o.1 h).1;rw[hd] at h;exact J (Option.some.inj h)
  clear J hd
  go_in
  go_upto_region 1 with fail
  rw[E.o]
  go_wp2
  go_ret
  exact .no G.o F.o
 by_cases h4:V=4
 ·subst h4;obtain⟨e3,e4⟩:=HX.o d0.o;obtain⟨wd,b5⟩:=O2 X.width;rw[b5] at HK e3 e4 c1 E;rw[b5];have e:Kg (On X) s↔bitsP wd s.data.toList:=by rw[Ga U,HK.o];exact Iff.rfl
  have D:=Hd e;clear e b5
  by_cases hz:s.size=wd+2
  ·have z0:((s.size:Int) != (wd:Int)+2)=false:=by rw[bne_eq_false_iff_eq];omega
   have d7:1<s.size:=by omega
   have f9:0<s.size:=by omega
   have HZ:=Hd hz;clear hz;have HA:=Hd (D.o.trans (MK HZ.o d7));clear D
   by_cases I:s[0]=35
   ·have z1:=Wl 35 rfl I
    by_cases O:s[1]=98
    ·have z2:=Wl 98 rfl O;have Y:Hid (Kg (On X) s↔∀ j (h:j<s.size),2<=j->If s[j]=true):=HA.o.trans ⟨fun h=>h.2.2,fun h=>⟨I,O,h⟩⟩;clear I O HA
     go_in
     go_upto_region 1 with fail
     rw[E.o]
     go_wp2
     go_loop [5] (fun i=>∃ k:Nat,k<=s.size/\2<=k/\i=.int .i64 k/\Hid (∀ j (h:j<s.size),2<=j->j<k->If s[j]=true)) (fun i=>s.size - (intOf i).toNat)
     case atStart=>exact⟨2,by omega,O1,rfl,fun j _ h2 h3=>absurd h2 (by omega)⟩
     obtain⟨k,hk,d8,rfl,hd⟩:=hrel
     by_cases d9:k<s.size
     ·by_cases H:s[k]=48
      ·have y0:=Wl 48 rfl H;have HC:Hid (If s[k]=true):=by unfold Hid If;rw[H];rfl
       clear H
       go_wp2
       go_round
       case rel=>exact⟨k+1,by omega,by omega,by go_num,fun j hj h2 h3=>by
        by_cases e:j=k
        ·subst e;exact HC.o
        exact hd.o j hj h2 (by omega)⟩
       simp[intOf];omega
      have y0:=Wm 48 rfl H
      by_cases K:s[k]=49
      ·have y1:=Wl 49 rfl K;have HC:Hid (If s[k]=true):=by unfold Hid If;rw[K];rfl
       clear K H
       go_wp2
       go_round
       case rel=>exact⟨k+1,by omega,by omega,by go_num,fun j hj h2 h3=>by
        by_cases e:j=k
        ·subst e;exact HC.o
        exact hd.o j hj h2 (by omega)⟩
       simp[intOf];omega
      have y1:=Wm 49 rfl K;have G:Hid (¬ Kg (On X) s):=fun h=>by
       have h:=Y.o.1 h k d9 d8;unfold If at h;simp only[Ud,Jw] at h
       rcases h with h|h
       ·exact H h
       exact K h
      clear K H Y
      go_wp2
      go_ret
      exact .no G.o F.o
     have HY:Hid (Kg (On X) s):=Y.o.2 fun j hj h2=>hd.o j hj h2 (by omega);clear Y
     go_wp2
     go_ret
     exact .yes HY.o F.o
    have z2:=Wm 98 rfl O;have G:Hid (¬ Kg (On X) s):=fun h=>O (HA.o.1 h).2.1;clear I O
    go_in
    go_upto_region 1 with fail
    rw[E.o]
    go_wp2
    go_ret
    exact .no G.o F.o
   have z1:=Wm 35 rfl I;have G:Hid (¬ Kg (On X) s):=fun h=>I (HA.o.1 h).1;clear I
   go_in
   go_upto_region 1 with fail
   rw[E.o]
   go_wp2
   go_ret
   exact .no G.o F.o
  have z0:((s.size:Int) != (wd:Int)+2)=true:=by rw[bne_iff_ne];omega
  have G:Hid (¬ Kg (On X) s):=fun h=>hz (D.o.1 h).2.1
  go_in
  go_upto_region 1 with fail
  rw[E.o]
  go_wp2
  go_ret
  exact .no G.o F.o
 have G:Hid (¬ Kg (On X) s):=fun h=>by
  have h:=h.2;rw[HK.o] at h;unfold I7 at h;simp only[if_neg h1,if_neg h2,if_neg h3,if_neg h4,if_neg h5] at h
 have g1:(V==1)=false:=by rw[Jd];exact h1
 have g2:(V==2)=false:=by rw[Jd];exact h2
 have g3:(V==3)=false:=by rw[Jd];exact h3
 have g4:(V==4)=false:=by rw[Jd];exact h4
 have g5:(V==5)=false:=by rw[Jd];exact h5
 go_in
 go_upto_region 1 with fail
 rw[E.o]
 go_wp2
 go_ret
 exact .no G.o F.o
def C6 (n w k:Nat):List Value:=((digits2 n w).take k).map (fun c=>Value.int .u8 (c.toNat:Nat))++List.replicate (w - k) (Value.int .u8 0)
theorem Mt (n:Nat):∀ (w k:Nat) (h:k<(digits2 n w).length),(digits2 n w)[k]=Gk n (w - 1 - k)
 | 0,k,h=>by simp[digits2] at h
 | w+1,0,h=>by simp[digits2]
 | w+1,k+1,h=>by
   have d:k<(digits2 n w).length:=by simpa[digits2] using h
   show (digits2 n w)[k]=_
   rw[Mt n w k d]
   congr 1
   have:=K5 n w
   omega
theorem DH (n w k:Nat)(h:k<=w):(C6 n w k).length=w:=by
 unfold C6;simp[K5];omega
theorem IB (n w:Nat):C6 n w 0=List.replicate w (Value.int .u8 0):=by simp[C6]
theorem DI (n w k:Nat)(h:k<w):(C6 n w k).set k (.int .u8 ((Gk n (w - 1 - k)).toNat:Nat))=C6 n w (k+1):=by
 have hl:=K5 n w;unfold C6;have d:(((digits2 n w).take k).map (fun c=>Value.int .u8 (c.toNat:Nat))).length=k:=by simp[hl];omega
 rw[List.set_append_right _ _ (by omega),d,V9,show w - k=(w - (k+1))+1 by omega,Oe,Jc];rw[Jt (by omega),Zc,Mt n w k (by omega),Yo];rfl
theorem IM (n w:Nat):C6 n w w=(digits2 n w).map (fun c=>Value.int .u8 (c.toNat:Nat)):=by
 unfold C6;rw[Jf (by rw[K5];exact O1),V9,List.replicate_zero,Z3]
theorem PJ {g w n:Nat}{W:World}(h:Bx W g (C6 n w w)):(convert 22 9 (.slice (some ⟨g,0,none⟩) w w)).run prog W=.ok (.string (Q.Kq (digits2 n w))) W:=by
 have hl:=K5 n w;have:=run_convert_bytes_back (P:=prog) W 22 9 5 ⟨g,0,none⟩ w (digits2 n w) underlying22 underlying5 underlying9 (fun i hi=>by
  rw[hl] at hi;rw[Addr.add_lit,h.cell,IM,Y3,Zh,Jl (by omega)];rfl)
 rw[hl] at this;exact this
theorem info_u8:∃ i:TypeInfo,prog.info? 5=some i/\i.zero=some (.int .u8 0)/\i.size=1/\i.bytes=1:=⟨_,rfl,rfl,rfl,rfl⟩
theorem BN (n:Nat):(madeCells (Value.cells (.int .u8 0)) n)=(List.replicate n (Value.int .u8 0)).toArray:=by
 apply Array.ext'
 show (madeCells #[Value.int .u8 0] n).toList=_
 rw[toList_madeCells_one]
theorem BG (wd:Nat)(w:World)(hw:wd<=64):(Instr.makeSlice 22 (.int .i64 (wd:Nat)) (.int .i64 (wd:Nat))).run prog w=.ok (.slice (some ⟨w.heap.size,0,none⟩) wd wd) (w.alloc (.cells (List.replicate wd (Value.int .u8 0)).toArray 5)):=by
 obtain⟨i,d,j,h3,h4⟩:=info_u8;have h:=run_makeSlice (P:=prog) w 22 5 i _ underlying22 d j .i64 .i64 (wd:Nat) (wd:Nat) (by omega) (by omega) (by rw[h3];omega) (by rw[h4];omega) (by omega);rw[h,Int.toNat_natCast,h3,Z7,BN]
theorem Q4 (n wd:Nat)(w:World)(hn:n<18446744073709551616)(hw:wd<=64) :
 Calls prog 40 #[.int .u64 (n:Nat),.int .i64 (wd:Nat)] w fun e w'=>e=.returned (.string (Q.Kq (digits2 n wd)))/\Up w w':=by
 obtain⟨W0,D⟩:∃ W0,W0=w.alloc (.cells (List.replicate wd (Value.int .u8 0)).toArray 5):=⟨_,rfl⟩;have H:=BG wd w hw;rw[<-D] at H;have HX:Hid (Bx W0 w.heap.size (C6 n wd 0)):=by unfold Hid;rw[D,IB];exact Ox w _ _
 have Y:Hid (Up w W0):=by unfold Hid;rw[D];exact Oo _ _
 clear D
 go_in
 go_wp2_with fail
 clear H
 go_loopw [11] (fun vi W=>∃ k:Nat,k<=wd/\vi=.int .i64 k/\Hid (Bx W w.heap.size (C6 n wd k))/\Hid (Up w W)) (fun vi _=>wd - (intOf vi).toNat)
 case atStart=>exact⟨0,J7 _,rfl,HX,Y⟩
 obtain⟨k,hk,rfl,I,T⟩:=hrel
 by_cases d:k<wd
 ·have K:=DI n wd k d;obtain⟨j,hj⟩:∃ j:Nat,(wd:Int) - 1 - (k:Int)=j:=⟨wd - 1 - k,by omega⟩;have U:j<=64:=by omega
  have G:wd - 1 - k=j:=by omega
  rw[G] at K;obtain⟨u,V⟩:∃ u,(C6 n wd k)[k]? = some u:=⟨_,Jl (by rw[DH n wd k hk];exact d)⟩;have O:wr.cell? ⟨w.heap.size,k,none⟩=some u:=by rw[I.o.cell];exact V
  have b3:wr.frozen? ⟨w.heap.size,k,none⟩=false:=I.o.fz _;have F:=Hd (I.o.set k (.int .u8 ((Gk n j).toNat:Nat)));have J:Hid (Up w (wr.setCell ⟨w.heap.size,k,none⟩ (.int .u8 ((Gk n j).toNat:Nat)))):=T.o.sc;rw[K] at F;clear G K V;have E:IntKind.u64.wrap (48+bits BinOp.and IntKind.u64 ((n:Int) / 2 ^ j) 1) % 256=((Gk n j).toNat:Nat):=by
   have e0:(n:Int) / 2 ^ j=((n / 2 ^ j:Nat):Int):=by rw[Int.natCast_ediv,Int.natCast_pow];rfl
   have d:n / 2 ^ j<18446744073709551616:=Oj (Nat.div_le_self _ _) hn;have:=bits_and_u64_nat (n / 2 ^ j) 1 d (by decide);rw[Nat.and_one_is_mod] at this;rw[e0,show (1:Int)=((1:Nat):Int) from rfl,this,Qp,IntKind.wrap_u64];omega
  have Z:=Hd E;clear E
  go_wp2_with fail
  rw[Z.o];exact⟨⟨k+1,d,rfl,F,J⟩,by simp[intOf];omega⟩
 have e:k=wd:=by omega
 subst e;have a8:=PJ I.o
 go_wp2
 go_ret
 exact⟨rfl,T.o⟩
theorem Hl (wd:Nat)(w:World)(hw:wd<=64) :
 Calls prog 18 #[.int .i64 (wd:Nat)] w fun e w'=>e=.returned (.string (Ny wd 0))/\Up w w':=by
 have F:=Hd (Q4 0 wd w (by decide) hw)
 go_in
 go_wp2_with fail
 refine F.o.mono ?_;rintro e H ⟨rfl,D⟩;have E:=Hd D;obtain⟨T,d⟩:=O2 (Q.Kq (digits2 0 wd));have G:T.size<=64:=by rw[<-d,Q.Kf,K5];exact hw
 have j:=Hd d;rw[d];clear D d
 go_wp2
 go_ret
 exact⟨by rw[<-j.o];rfl,E.o⟩
theorem GL {B B':Nat}{z:Value}{x y:Int}(h:Q.C0 B w z x y)(hb:B'<=B):Q.C0 B' w z x y:=by
 obtain⟨D,H,E,G,F,q0,O,I,K,J,e,d,j⟩:=h;exact⟨D,H,E,G,F,q0,O,I,K,J,e,d.mono hb,j.mono hb⟩
theorem GI (h:Q.Ow s=true):Q.Nq s none:=by
 obtain⟨k,D⟩:=Q.M9 s
 cases k with
 | none=>exact D
 | some i=>
   exfalso
   have hm:(47:UInt8)∈s.data.toList:=Ug D.1;obtain⟨E,_,_⟩:=Q.G1 s h;have H:∀ c∈(Q.dgs s).data.toList,c≠47:=fun c hc=>by
    have:=E c hc;unfold Q.D5 at this;rintro rfl;revert this;decide
   by_cases hn:Q.Ki s=true
   ·obtain⟨G,d⟩:=Q.I0 s hn;rw[Q.Xg s hn] at H;have hj:∃ j,∃ hj:j<s.size,s[j]=47:=by
     obtain⟨j,hj,e⟩:=Ym hm;exact⟨j,hj,e⟩
    obtain⟨j,hj,e⟩:=hj
    by_cases F:j=0
    ·subst F;rw[e] at d
     revert d;decide
    refine H 47 ?_ rfl;simp only[Y6,Zf,Zs];rw[Jf (by rw[Jr];exact O1)];refine List.mem_iff_getElem.2 ⟨j - 1,by rw[Jr];have:s.data.toList.length=s.size:=rfl;omega,?_⟩;rw[Zm];simp only[show 1+(j - 1)=j by omega];exact e
   rw[Q.Xh s (by simpa using hn)] at H;exact H 47 hm rfl
theorem St:∀ (l r:List UInt8),l.length=r.length->(∀ c∈l,If c=true)->(∀ c∈r,If c=true)->Op.bytesLess l r=decide (bn 2 l<bn 2 r)
 | [],[],_,_,_=>rfl
 | [],_::_,h,_,_=>by simp at h
 | _::_,[],h,_,_=>by simp at h
 | a::l,b::r,h,hl,hr=>by
   have d:l.length=r.length:=by simpa using h
   have J:=St l r d (fun c hc=>hl c (by simp[hc])) (fun c hc=>hr c (by simp[hc]))
   have D:=Gf (hl a (by simp))
   have E:=Gf (hr b (by simp))
   have G:=Pp l (fun c hc=>Gf (hl c (by simp[hc])))
   have F:=Pp r (fun c hc=>Gf (hr c (by simp[hc])))
   unfold Op.bytesLess
   rw[J,show a::l=[a]++l from rfl,show b::r=[b]++r from rfl,Xb,Xb,I3,I3,<-d]
   rw[<-d] at F
   unfold Lq at D E
   generalize 2 ^ l.length=P at G F ⊢
   rw[Zj]
   simp only[Ud,Yd,J2,Jw,UInt8.lt_iff_toNat_lt]
   have j:a=b↔a.toNat=b.toNat:=UInt8.toNat_inj.symm
   rw[j]
   generalize a.toNat=u at D ⊢
   generalize b.toNat=v at E ⊢
   have H:u=48∨u=49:=by omega
   have I:v=48∨v=49:=by omega
   rcases H with rfl|rfl<;>rcases I with rfl|rfl<;>simp<;>omega
theorem ZX {k:SK}{a b:ByteArray}(hk:k.kind=4)(ha:Kg k a)(hb:Kg k b):Op.bytesLess a.toList b.toList=decide (key k a<key k b):=by
 have ha:=ha.2;have hb:=hb.2;unfold I7 at ha hb;simp only[hk] at ha hb;obtain⟨a1,a2,a3⟩:bitsP k.width a.data.toList:=ha;obtain⟨b1,b2,d⟩:bitsP k.width b.data.toList:=hb;rw[Je,Je,<-J9 2 a.data.toList,<-J9 2 b.data.toList,a1,b1];unfold key;rw[if_neg (by omega),if_pos hk,if_neg (by omega),if_pos hk];have:=St (a.data.toList.drop 2) (b.data.toList.drop 2) (by rw[Jr,Jr,a2,b2]) a3 d
 show Op.bytesLess (35::98::a.data.toList.drop 2) (35::98::b.data.toList.drop 2)=_
 unfold Op.bytesLess;unfold Op.bytesLess;rw[this];rw[Zj];simp
 try omega
theorem AY (t:TypeId)(a b:ByteArray):binOp .gtr t (.string a) (.string b)=pure (.bool !(Op.bytesLess a.toList b.toList||a.toList==b.toList)):=by simp[binOp,Op.stringOp]
attribute [local go_sem] AY
theorem Ss (X:SI)(a b:ByteArray)(w:World)(hK:Gm (On X))(ha:Kg (On X) a)(hb:Kg (On X) b) :
 Calls prog 29 #[Hj X,.string a,.string b] w fun e w'=>e=.returned (.int .i64 (Q.Nc (key (On X) a) (key (On X) b)))/\Up w w':=by
 obtain⟨W0,E⟩:=O2 (w.alloc (.cells #[.int .i64 X.kind,.int .i64 (X.width:Nat),.string (Oy X.index),.string (Oy X.elem)] 37));have HB:Hid (Up w W0):=by unfold Hid;rw[<-E];exact Oo _ _
 have D:Bx W0 w.heap.size [.int .i64 X.kind,.int .i64 (X.width:Nat),.string (Oy X.index),.string (Oy X.elem)]:=by rw[<-E];exact Ox w _ _
 have c0:=D.cell 0;have HW:=Hd E;obtain⟨kd,J⟩:=O2 X.kind;have d:Hid ((On X).kind=kd):=J;have U:=Hd ha;have j:=Hd hb;have e6:=ha.1;have F:=hb.1;unfold Hj;rw[J] at c0 HW ⊢;have d5:kd=2∨kd=4∨kd=5:=by rw[<-d.o];exact hK
 clear D E J ha hb hK
 rcases d5 with rfl|rfl|rfl
 ·have h1:Q.Ow a=true:=by have:=U.o.2;unfold I7 at this;simp only[d.o] at this;exact this
  have h2:Q.Ow b=true:=by have:=j.o.2;unfold I7 at this;simp only[d.o] at this;exact this
  have b9:=Hd (fun w=>Q.Bp a none (Q.K9 a) 1 w (by unfold maxLen;omega) (GI h1) ⟨h1,rfl,rfl⟩);have c6:=Hd (fun w=>Q.Bp b none (Q.K9 b) 1 w (by unfold maxLen;omega) (GI h2) ⟨h2,rfl,rfl⟩);have b8:Hid (Q.Nc (key (On X) a) (key (On X) b)=Q.Nc (Q.K9 a*1) (Q.K9 b*1)):=by
   unfold Hid key;rw[if_pos d.o,if_pos d.o,Int.mul_one,Int.mul_one]
  clear h1 h2
  go_in
  go_upto_region 1 with fail
  rw[HW.o]
  go_wp2_with fail
  refine (b9.o _).mono ?_;rintro e w1 ⟨z1,rfl,b3,a6⟩;have c8:=Hd b3;have V:=Hd a6;clear b3 a6
  go_wp2_with fail
  refine (c6.o _).mono ?_;rintro e w2 ⟨z2,rfl,b4,F⟩;have d0:=Hd (GL b4 V.o.size);have Z:=Hd (c8.o.bl F);have H:=V.up F;clear b4 F
  go_wp2_with fail
  refine (Q.XS W0.heap.size z1 z2 _ _ _ _ w2 H.o.size Z.o d0.o).mono ?_;rintro e w3 ⟨rfl,a7⟩;have b7:Hid (Up w w3):=HB.o.trans ((H.o.trans (a7.mono H.o.size)).mono HB.o.size);clear a7;rw[<-b8.o]
  go_wp2
  go_ret
  exact⟨rfl,b7.o⟩
 ·have K:=ZX d.o U.o j.o;have O:=ZX d.o j.o U.o;obtain⟨x,D⟩:=O2 (key (On X) a);obtain⟨y,G⟩:=O2 (key (On X) b);rw[D,G] at K O;have a8:(a.toList==b.toList)=decide (x=y):=by
   rw[Zj,J2,Jw,<-D,<-G];constructor
   ·intro h;have d6:a=b:=Kz (by rw[<-Je,<-Je];exact h);rw[d6]
   intro h;rw[Qw (.inr (.inl d.o)) U.o j.o h]
  rw[D,G];clear D G
  rcases Ek x y with⟨h,e⟩|⟨h,e⟩|⟨h,e⟩
  all_goals (
   have HE:=Hd e;have HH:=Hd h
   first
   | rw[Jn (show x<y by omega)] at K
   | rw[Jp (show ¬ x<y by omega)] at K
   first
   | rw[Jn (show y<x by omega)] at O
   | rw[Jp (show ¬ y<x by omega)] at O
   first
   | rw[Jn (show x=y by omega)] at a8
   | rw[Jp (show ¬ x=y by omega)] at a8
   rw[e];clear h e
   go_in
   go_upto_region 1 with fail
   rw[HW.o]
   go_wp2
   go_ret
   exact⟨rfl,HB.o⟩)
 have o1:ownP a.data.toList:=by have:=U.o.2;unfold I7 at this;simp only[d.o] at this;exact this
 have o2:ownP b.data.toList:=by have:=j.o.2;unfold I7 at this;simp only[d.o] at this;exact this
 have e1:∀ {s:ByteArray},(s.extract 1 s.size).data.toList=s.data.toList.drop 1:=fun {s}=>by
  simp only[Y6,Zf,Zs];exact Jf (by rw[Jr];exact O1)
 have e7:1<=a.size:=by have:=o1.2.1;rw[Jr] at this;have h9:a.data.toList.length=a.size:=rfl;omega
 have e8:1<=b.size:=by have:=o2.2.1;rw[Jr] at this;have h9:b.data.toList.length=b.size:=rfl;omega
 obtain⟨S,hS⟩:=O2 (a.extract 1 a.size);obtain⟨T,hT⟩:=O2 (b.extract 1 b.size);have HS:Hid (Ik S.data.toList=key (On X) a):=by
  unfold Hid key;rw[if_neg (by rw[d.o];decide),if_neg (by rw[d.o];decide),if_pos d.o,<-hS,e1];exact (C5 _).2 o1.2
 have I:Hid (Ik T.data.toList=key (On X) b):=by
  unfold Hid key;rw[if_neg (by rw[d.o];decide),if_neg (by rw[d.o];decide),if_pos d.o,<-hT,e1];exact (C5 _).2 o2.2
 have Y:Hid (S.size<=2000/\T.size<=2000):=by unfold Hid;rw[<-hS,<-hT,Yj,Yj];omega
 obtain⟨x,D⟩:=O2 (key (On X) a);obtain⟨y,G⟩:=O2 (key (On X) b);rw[D] at HS;rw[G] at I;rw[D,G];clear D G o1 o2 e1
 rcases Ek x y with⟨h,e⟩|⟨h,e⟩|⟨h,e⟩
 all_goals (
  rw[e];have HH:=Hd h;clear e h
  go_in
  go_upto_region 1 with fail
  rw[HW.o]
  go_wp2_with fail
  refine (Pv S _ (by have:=Y.o.1;unfold maxLen;omega)).mono ?_;rw[HS.o];rintro e w1 ⟨rfl,rfl⟩
  go_wp2_with fail
  refine (Pv T _ (by have:=Y.o.2;unfold maxLen;omega)).mono ?_;rw[I.o];rintro e w2 ⟨rfl,rfl⟩;clear HS I;have h:=HH.o
  try (have h':¬ x<y:=by omega)
  try (have h'':¬ y<x:=by omega)
  go_wp2
  go_ret
  exact⟨rfl,HB.o⟩)
end Go.Proofs.YtjjgilacnocigaaGreatDoor
namespace Go.Proofs.YtjjgilacnocigaaGreatDoor
open ChangeShapes WideShapes ChangeAt RowKit
variable {W W':World}{a p r:ByteArray}{i k:Nat}{v:Value}
def PY (s:ByteArray):Prop:=∀ c∈s.data.toList,c≠59
def oU (L:List Kd):Prop:=∀ e∈L,(∀ c∈e.1.data.toList,c≠59/\c≠61)/\PY e.2
theorem Ce (r:ByteArray)(L:List Kd)(e:Kd):Hu r (L++[e])=Hu r L++Ie e:=by
 unfold Hu;rw[Od,Yo];simp
theorem Ck (r:ByteArray)(e:Kd)(L:List Kd):Hu r (e::L)=r.data.toList++59::(e.1.data.toList++61::Hu e.2 L):=by
 unfold Hu Ie;simp
theorem Im (r:ByteArray):Hu r []=r.data.toList:=by simp[Hu]
theorem GZ (part X:List UInt8)(hp:∀ c∈part,c≠59/\c≠61)(hX:X=[125]∨∃ Y,X=59::Y):∀ (L L':List Kd) (r r':ByteArray),PY r->PY r'->oU L->oU L'->Hu r' L'++[125]=Hu r L++59::(part++X)->False
 | [],[],r,r',h1,h2,_,_,h=>by
   rw[Im,Im] at h
   have hm:(59:UInt8)∈r'.data.toList++[125]:=by rw[h];simp
   rcases J5.1 hm with hm|hm
   ·exact h2 59 hm rfl
   revert hm;decide
 | _::_,[],r,r',h1,h2,_,_,h=>by
   rw[Im,Ck] at h
   have hm:(59:UInt8)∈r'.data.toList++[125]:=by rw[h];simp
   rcases J5.1 hm with hm|hm
   ·exact h2 59 hm rfl
   revert hm;decide
 | [],f::L',r,r',h1,h2,_,hw,h=>by
   rw[Im,Ck,Yo,Yf] at h
   obtain⟨_,h⟩:=Hz (fun c hc=>h2 c hc) (fun c hc=>h1 c hc) h
   have j:=(hw f (by simp)).1
   rw[Yo,Yf] at h
   have d:(f.1.data.toList++61::(Hu f.2 L'++[125]))[f.1.data.toList.length]? = some 61:=by simp
   rcases Nat.lt_trichotomy f.1.data.toList.length part.length with hl|hl|hl
   ·rw[h,Zk hl] at d
    exact (hp 61 (Ug d)).2 rfl
   ·rw[h,hl,Zp O1,V9] at d
    rcases hX with rfl|⟨Y,rfl⟩
    ·revert d;decide
    revert d;simp
   have D:(part++X)[part.length]? = some (f.1.data.toList[part.length]):=by rw[<-h,Zk hl,Jl hl]
   rw[Zp O1,V9] at D
   rcases hX with rfl|⟨Y,rfl⟩
   ·have:=congrArg List.length h
    simp at this
    simp at hl
    omega
   have F:(59:UInt8)=f.1.data.toList[part.length]:=by simpa using D
   exact (j 59 (by rw[F];exact Yl hl)).1 rfl
 | e::L,f::L',r,r',h1,h2,hv,hw,h=>by
   rw[Ck,Ck] at h
   simp only[Yo,Yf] at h
   obtain⟨_,h⟩:=Hz (fun c hc=>h2 c hc) (fun c hc=>h1 c hc) h
   have E:=hv e (by simp)
   have j:=hw f (by simp)
   obtain⟨_,h⟩:=Hz (fun c hc=>(j.1 c hc).2) (fun c hc=>(E.1 c hc).2) h
   exact GZ part X hp hX L L' e.2 f.2 E.2 j.2 (fun x hx=>hv x (by simp[hx])) (fun x hx=>hw x (by simp[hx])) h
def Sy (t:List UInt8)(k:Nat)(r:ByteArray)(L:List Kd):Prop:=t.take k=123::(Hu r L++[59])/\PY r/\oU L
theorem D4 {t:List UInt8}(hk:k<=i)(hi:i<t.length):t.take (i+1)=t.take k++(t.drop k).take (i - k)++[t[i]]:=by
 rw[Jt hi]
 congr 1
 rw[show i=k+(i - k) by omega,List.take_add]
 congr 2
 omega
theorem IC {t:List UInt8}(h1:1<=i)(hi:i<t.length)(h0:t.head? = some 123)(hc:t[i]=59)(hp:p.data.toList=(t.drop 1).take (i - 1))(hn:PY p):Sy t (i+1) p []:=by
 refine⟨?_,hn,fun e he=>by cases he⟩;rw[D4 h1 hi,<-hp,hc,Im]
 cases t with
 | nil=>simp at h0
 | cons c t=>simp at h0;subst h0;simp
theorem DU {t:List UInt8}{L:List Kd}{b:ByteArray}(h:Sy t k r L)(hk:k<=i)(hi:i<t.length)(hc:t[i]=59)(hp:p.data.toList=(t.drop k).take (i - k))(hab:p.data.toList=a.data.toList++61::b.data.toList)(ha:∀ c∈a.data.toList,c≠59/\c≠61)(hb:PY b):Sy t (i+1) r (L++[(a,b)]):=by
 refine⟨?_,h.2.1,fun e he=>?_⟩
 ·rw[D4 hk hi,h.1,<-hp,hc,Ce,hab];simp[Ie]
 rcases J5.1 he with he|he
 ·exact h.2.2 e he
 rcases Ye.1 he with rfl
 exact⟨ha,hb⟩
theorem Mm {t:List UInt8}(h1:1<=i)(hi:i+1=t.length)(h0:t.head? = some 123)(hc:t[i]'(by omega)=125)(hp:p.data.toList=(t.drop 1).take (i - 1))(hn:PY p):Xt t p []:=by
 refine⟨?_,hn,fun e he=>by cases he⟩;have d:=D4 h1 (show i<t.length by omega);rw[hi,Zi,<-hp,hc] at d;rw[d];unfold E8;rw[Im]
 cases t with
 | nil=>simp at h0
 | cons c t=>simp at h0;subst h0;simp
theorem DV {t:List UInt8}{L:List Kd}{b:ByteArray}(h:Sy t k r L)(hk:k<=i)(hi:i+1=t.length)(hc:t[i]'(by omega)=125)(hp:p.data.toList=(t.drop k).take (i - k))(hab:p.data.toList=a.data.toList++61::b.data.toList)(ha:∀ c∈a.data.toList,c≠59/\c≠61)(hb:PY b):Xt t r (L++[(a,b)]):=by
 refine⟨?_,h.2.1,fun e he=>?_⟩
 ·have d:=D4 hk (show i<t.length by omega);rw[hi,Zi,<-hp,hc,h.1] at d;rw[d];unfold E8;rw[Ce,hab];simp[Ie]
 rcases J5.1 he with he|he
 ·exact h.2.2 e he
 rcases Ye.1 he with rfl
 exact⟨ha,hb⟩
theorem DK {t:List UInt8}{L:List Kd}(h:Sy t k r L)(hk:k<=i)(hi:i<t.length)(hc:t[i]=59∨(i+1=t.length/\t[i]=125))(hp:p.data.toList=(t.drop k).take (i - k))(hn:∀ c∈p.data.toList,c≠59/\c≠61):¬ ∃ r' L',Xt t r' L':=by
 rintro⟨r',L',E,F,h3⟩;have D:t=t.take k++p.data.toList++t.drop i:=by
  rw[hp];have:=(J9 i t).symm;rw[show t.take i=t.take k++(t.drop k).take (i - k) from by rw[show i=k+(i - k) by omega,List.take_add];congr 2;omega] at this;exact this
 have j:t.drop i=t[i]::t.drop (i+1):=Yw hi;rw[h.1] at D;have h4:Hu r' L'++[125]=Hu r L++59::(p.data.toList++t.drop i):=by
  have:=E.symm.trans D;unfold E8 at this;simp only[Yf,List.cons.injEq,true_and] at this;rw[this];simp
 refine GZ p.data.toList (t.drop i) hn ?_ L L' r r' h.2.1 F h.2.2 h3 h4
 rcases hc with hc|⟨hc,d⟩
 ·exact .inr ⟨_,by rw[j,hc]⟩
 refine .inl ?_;rw[j,d,Uw (by omega)]
theorem OB {t:List UInt8}{L:List Kd}(h:Xt t r L):2<=t.length/\t.head? = some 123/\t.getLast? = some 125:=by
 rw[h.1];unfold E8;refine⟨by simp,rfl,?_⟩;rw[<-Yf,Vp]
structure TwoR (ok:Bool)(G:Nat)(W:World)(r:ByteArray)(av bv:Value)(A V:List ByteArray):Prop where
 bx:Bx W G [.bool ok,.string r,av,bv]
 ra:W.ownsRow (G+1) 9 1 av A.length (A.map Value.string)
 rb:W.ownsRow (G+1) 9 1 bv V.length (V.map Value.string)
 ab:∀ g,av.ownBlock=some g->bv.ownBlock≠some g
theorem Gb {base n:Nat}{xs:List Value}{e:TypeId}{sz:Nat}(h:W.ownsRow base e sz v n xs)(hk:∀ k,v.ownBlock=some k->W'.heap[k]? = W.heap[k]?):W'.ownsRow base e sz v n xs:=by
 refine⟨h.1,?_⟩
 rcases h.2 with j|⟨g,cap,cur,rfl,a,b,c,d,e,f⟩
 ·exact .inl j
 exact .inr ⟨g,cap,cur,rfl,a,by rw[hk g rfl];exact b,c,d,e,f⟩
theorem TwoR.appA {ok:Bool}{G:Nat}{av bv:Value}{A V:List ByteArray}(h:TwoR ok G W r av bv A V){g cap:Nat}{o:Obj}(hown:W'.ownsRow (G+1) 9 1 (.slice (some ⟨g,0,none⟩) (A.length+1) cap) (A.length+1) (A.map Value.string++[.string a]))(hgr:(W.alloc o).grownBy W' av.ownBlock)(hat:av.ownBlock=some g∨W.heap.size<=g) :
 TwoR ok G (W'.setCell ⟨G,2,none⟩ (.slice (some ⟨g,0,none⟩) (A.length+1) cap)) r (.slice (some ⟨g,0,none⟩) (A.length+1) cap) bv (A++[a]) V:=by
 have D:G<W.heap.size:=h.bx.lt;have E:G+1<=g:=(hown.lt g rfl).1;have d:∀ k,k<W.heap.size->av.ownBlock≠some k->W'.heap[k]? = W.heap[k]? := fun k hk hne=>(hgr.block k (by simp;omega) (fun e=>hne e.symm)).trans ((Oo W o).block k hk);refine⟨?_,?_,?_,?_⟩
 ·obtain⟨H,F⟩:=h.bx;exact Bx.set ⟨H,(d G D (fun e=>by have:=(h.ra.lt G e).1;omega)).trans F⟩ 2 _
 ·rw[Jq,Zc];exact Gb hown (fun k e=>J1 _ ⟨G,2,none⟩ _ _ (fun e2=>by have j:=Option.some.inj e;dsimp only at e2 j;omega))
 ·refine Gb h.rb (fun k e=>(J1 _ ⟨G,2,none⟩ _ _ (fun e2=>by have:=(h.rb.lt k e).1;dsimp only at e2;omega)).trans (d k (h.rb.lt k e).2 (fun e2=>h.ab k e2 e)))
 intro k hk;cases hk;intro e
 rcases hat with e2|e2
 ·exact h.ab g e2 e
 have:=(h.rb.lt g e).2;omega
theorem TwoR.appB {ok:Bool}{G:Nat}{av bv:Value}{A V:List ByteArray}(h:TwoR ok G W r av bv A V){g cap:Nat}{o:Obj}(hown:W'.ownsRow (G+1) 9 1 (.slice (some ⟨g,0,none⟩) (V.length+1) cap) (V.length+1) (V.map Value.string++[.string a]))(hgr:(W.alloc o).grownBy W' bv.ownBlock)(hat:bv.ownBlock=some g∨W.heap.size<=g) :
 TwoR ok G (W'.setCell ⟨G,3,none⟩ (.slice (some ⟨g,0,none⟩) (V.length+1) cap)) r av (.slice (some ⟨g,0,none⟩) (V.length+1) cap) A (V++[a]):=by
 have D:G<W.heap.size:=h.bx.lt;have E:G+1<=g:=(hown.lt g rfl).1;have d:∀ k,k<W.heap.size->bv.ownBlock≠some k->W'.heap[k]? = W.heap[k]? := fun k hk hne=>(hgr.block k (by simp;omega) (fun e=>hne e.symm)).trans ((Oo W o).block k hk);refine⟨?_,?_,?_,?_⟩
 ·obtain⟨H,F⟩:=h.bx;exact Bx.set ⟨H,(d G D (fun e=>by have:=(h.rb.lt G e).1;omega)).trans F⟩ 3 _
 ·refine Gb h.ra (fun k e=>(J1 _ ⟨G,3,none⟩ _ _ (fun e2=>by have:=(h.ra.lt k e).1;dsimp only at e2;omega)).trans (d k (h.ra.lt k e).2 (fun e2=>h.ab k e e2)))
 ·rw[Jq,Zc];exact Gb hown (fun k e=>J1 _ ⟨G,3,none⟩ _ _ (fun e2=>by have j:=Option.some.inj e;dsimp only at e2 j;omega))
 intro k hk e
 cases e
 rcases hat with e2|e2
 ·exact h.ab g hk e2
 have:=(h.ra.lt g hk).2;omega
def Dp (W:World)(v:Value)(A:List ByteArray):Prop:=
 ∃ p c,v=.slice p A.length c/\A.length<=c/\c<=maxLen/\(A=[]∨∃ b,p=some ⟨b,0,none⟩/\b<W.heap.size/\∀ i (h:i<A.length),W.cell? ⟨b,i,none⟩=some (.string A[i]))
theorem Dp.next {A:List ByteArray}(h:Dp W v A)(hb:Up W W'):Dp W' v A:=by
 obtain⟨p,c,rfl,d,j,h3⟩:=h;refine⟨p,c,rfl,d,j,?_⟩
 rcases h3 with h3|⟨b,e,hl,D⟩
 ·exact .inl h3
 exact .inr ⟨b,e,Js hl hb.size,fun i hi=>(hb.cell (p:=⟨b,i,none⟩) hl).trans (D i hi)⟩
theorem N0 {base:Nat}{A:List ByteArray}(h:W.ownsRow base 9 1 v A.length (A.map Value.string)):Dp W v A:=by
 have E:=h
 rcases h.2 with⟨rfl,e⟩|⟨g,cap,cur,rfl,F,H,j,d,G,D⟩
 ·exact⟨none,0,by rw[e],by omega,by unfold maxLen;omega,.inl (Jo e)⟩
 refine⟨_,_,rfl,j,d,.inr ⟨g,rfl,(E.lt g rfl).2,fun i hi=>?_⟩⟩;rw[E.cellAt i (by omega),Zh,Jl hi];rfl
end Go.Proofs.YtjjgilacnocigaaGreatDoor
