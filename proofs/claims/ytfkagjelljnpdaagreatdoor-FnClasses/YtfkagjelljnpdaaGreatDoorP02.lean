import Derived.Test.YtfkagjelljnpdaaGreatDoorP01
import Derived.Deep.RegionWith
set_option maxRecDepth 100000
set_option maxHeartbeats 2000000
namespace Go.Proofs.YtfkagjelljnpdaaGreatDoor.Q
open ChangeShapes WideShapes ChangeAt RowKit Proofs.Tryz
variable {B c l:Nat}{n neg:Bool}{t:List Nat}{w:World}{z:Value}
def part(d:List UInt8)(a b:Nat):Nat:=num ((d.take b).drop a)
theorem Qy(d:List UInt8)(a:Nat):part d a a=0:=by
 unfold part;rw[Yj (List.length_take_le _ _)];rfl
theorem GV(d:ByteArray)(a j:Nat)(h1:a<=j)(h2:j<d.size):part d.data.toList a (j+1)=part d.data.toList a j*10+(d[j].toNat - 48):=by
 unfold part;rw[Gr d j h2,List.drop_append_of_le_length (by rw[J7,<-Lib.size_eq];omega),C0]
theorem I0(d:ByteArray)(dl:List UInt8)(hd:d.data.toList=dl)(a j:Nat)(h1:a<=j)(h2:j<d.size):part dl a (j+1)=part dl a j*10+(d[j].toNat - 48):=by
 subst hd;exact GV d a j h1 h2
theorem Rq(d:List UInt8)(h:∀c∈d,P8 c)(a j:Nat)(hj:j<a+9):part d a j<100000000:=by
 unfold part;have E:=ZN ((d.take j).drop a) (fun c hc=>h c (Yp (Zz hc)));have q:((d.take j).drop a).length<=8:=by rw[Yr,J7];omega
 have G:10 ^ ((d.take j).drop a).length<=10 ^ 8:=Nat.pow_le_pow_right (by omega) q;have:(10:Nat) ^ 8=100000000:=by decide
 omega
theorem Q5.setCell(h:Q5 B w z neg t)(p:Addr)(u:Value)(hp:p.block<B):Q5 B (w.setCell p u) z neg t:=by
 obtain⟨q,E,j⟩:=h;refine⟨q,E,?_⟩
 rcases j with⟨j,v,rfl,G⟩|j
 ·exact .inl ⟨j,v,rfl,G.setCell p u hp⟩
 exact .inr j
theorem Q5.mono{B':Nat}(h:Q5 B w z neg t)(hb:B'<=B):Q5 B' w z neg t:=by
 obtain⟨q,E,j⟩:=h;refine⟨q,E,?_⟩
 rcases j with⟨j,v,rfl,G⟩|j
 ·exact .inl ⟨j,v,rfl,G.mono hb⟩
 exact .inr j
theorem Q5.shape(h:Q5 B w z neg t):∃(z0:Int) (zn:Bool) (za:Option Addr) (zl zc:Nat),z=.agg #[.int .i64 z0,.bool zn,.slice za zl zc]:=by
 obtain⟨E,G,j⟩:=h
 rcases j with⟨j,v,rfl,a,q,rfl,_⟩|⟨_,rfl⟩
 ·exact⟨_,_,_,_,_,rfl⟩
 exact⟨_,_,_,_,_,rfl⟩
theorem YL(s:ByteArray)(w:World)(hi:Ol s=true)(hn:Ur s=false) :
 Calls prog 93 #[.string s] w fun e w'=>∃z,e=.returned z/\Q5 w.heap.size w' z false (O0 (Uy (s).data.toList))/\Up w w':=by
 obtain⟨R,b9,c6⟩:=Qs s hi;rw[Dh s hn]at R b9 c6;obtain⟨dl,a1⟩:=O2 ((s).data.toList);have V:=Hd a1;have HZ:Hid (dl.length=s.size):=by unfold Hid;rw[<-a1,<-Lib.size_eq]
 rw[Lib.size_eq,a1,HZ.o]at b9 c6;rw[a1]at R ⊢;have HG:=Hd R;have e7:0<s.size:=by omega
 have hm:((s[0].toNat:Int)==45)=false:=by have:=S1 s hn e7;simp;omega
 obtain⟨i0,b1,d2,d3,d4⟩:=info_parts info_u32;obtain⟨W0,b4⟩:=O2 (w.alloc (.cells #[.int .i64 0,.bool false,.slice none 0 0] 131));have G:=Hd b4;have d0:W0.heap.size=w.heap.size+1:=by rw[<-b4];simp
 have K:=Hd d0;clear hi R d0 b4 hn a1
 go_in
 go_wp2
 rw[G.o]
 go_loopw [4,5] (fun v e wr=>∃k:Nat,9*k<=s.size+8/\e=.int .i64 ((s.size:Nat) - 9*k) /\
  wr.ownsRow (w.heap.size+1) 152 1 v k ((List.range k).map (fun i=>Value.int .u32 (chunk dl i:Nat)))/\Below (w.heap.size+1) W0 wr)
  (fun _ e _=>(intOf e).toNat)
 case atStart=>exact⟨0,by omega,V0 (by omega),World.ownsRow_nil _ _ _ _,Ji _ _⟩
 obtain⟨k,hk,rfl,E,Y⟩:=hrel
 by_cases g1:9*k<s.size
 ·by_cases h9:9*k+9<=s.size
  ·
   go_wp2
   go_loop [7,8] (fun t i=>∃j:Nat,s.size - 9*k - 9<=j/\j<=s.size - 9*k/\i=.int .i64 j/\t=.int .u32 (part dl (s.size - 9*k - 9) j:Nat)) (fun _ i=>s.size - 9*k - (intOf i).toNat)
   case atStart=>exact⟨s.size - 9*k - 9,leR,by omega,V0 (by omega),by rw[Qy];rfl⟩
   obtain⟨j,b6,e3,rfl,rfl⟩:=hrel
   by_cases e5:j<s.size - 9*k
   ·have a7:j<(s).size:=by rw[Lib.size_eq,V.o,HZ.o];omega
    have e4:j<s.size:=by omega
    have e6:=Rq dl HG.o (s.size - 9*k - 9) j (by omega);have e1:=Dt (s) (by rw[V.o];exact HG.o) j a7;have HS:Hid (part dl (s.size - 9*k - 9) (j+1)=part dl (s.size - 9*k - 9) j*10+((s)[j].toNat - 48)):=I0 (s) dl V.o (s.size - 9*k - 9) j b6 a7
    go_wp2
    go_round
    case rel=>exact⟨j+1,by omega,by omega,by go_num,by rw[HS.o];exact V0 (by omega)⟩
    simp[intOf];omega
   have a8:j=s.size - 9*k:=by omega
   have Z:Hid (part dl (s.size - 9*k - 9) j=chunk dl k):=by
    unfold Hid
    rw[a8];unfold part chunk;rw[HZ.o]
   have e2:=Nj dl k HG.o;rw[Z.o];clear a8 Z
   go_wp2_with (at_builtin;refine wpList_append_own _ rfl _ _ 129 rfl (w.heap.size+1) 152 i0 (.int .u32 0) 1 4 underlying129 b1 d2 d3 d4 rfl (by decide) _ _ _ rfl (E.alloc _) ⟨wr.heap.size,0,none⟩ 1 1 [.int .u32 (chunk dl k:Nat)] rfl rfl (cell_one_new _ _ _) ?pac2 ?pac3 ?pac4 ?pac5 ?_)
   case pac2=>first|rfl|(intro u hu;simp at hu;subst hu;rfl)
   case pac3=>unfold maxLen;omega
   case pac4=>omega
   case pac5=>have:=Y.size;have:=K.o;simp;omega
   intro v' w1 O h _;have b3:Below (w.heap.size+1) W0 w1:=(Y.alloc (by have:=Y.size;have:=K.o;omega) _).grown h (by have:=Y.size;have:=K.o;simp;omega) (fun q hq=>(E.lt q hq).1);clear h E Y
   go_wp2
   go_roundw
   case rel=>exact⟨k+1,by omega,V0 (by omega),by rw[Yv,Yk];exact O,b3⟩
   simp[intOf];omega
  go_wp2
  go_loop [7,8] (fun t i=>∃j:Nat,0<=j/\j<=s.size - 9*k/\i=.int .i64 j/\t=.int .u32 (part dl (0) j:Nat)) (fun _ i=>s.size - 9*k - (intOf i).toNat)
  case atStart=>exact⟨0,leR,by omega,V0 (by omega),by rw[Qy];rfl⟩
  obtain⟨j,b6,e3,rfl,rfl⟩:=hrel
  by_cases e5:j<s.size - 9*k
  ·have a7:j<(s).size:=by rw[Lib.size_eq,V.o,HZ.o];omega
   have e4:j<s.size:=by omega
   have e6:=Rq dl HG.o (0) j (by omega);have e1:=Dt (s) (by rw[V.o];exact HG.o) j a7;have HS:Hid (part dl (0) (j+1)=part dl (0) j*10+((s)[j].toNat - 48)):=I0 (s) dl V.o (0) j b6 a7
   go_wp2
   go_round
   case rel=>exact⟨j+1,by omega,by omega,by go_num,by rw[HS.o];exact V0 (by omega)⟩
   simp[intOf];omega
  have a8:j=s.size - 9*k:=by omega
  have Z:Hid (part dl (0) j=chunk dl k):=by
   unfold Hid
   rw[a8];unfold part chunk;rw[HZ.o];rw[show s.size - 9*k - 9=0 by omega]
  have e2:=Nj dl k HG.o;rw[Z.o];clear a8 Z
  go_wp2_with (at_builtin;refine wpList_append_own _ rfl _ _ 129 rfl (w.heap.size+1) 152 i0 (.int .u32 0) 1 4 underlying129 b1 d2 d3 d4 rfl (by decide) _ _ _ rfl (E.alloc _) ⟨wr.heap.size,0,none⟩ 1 1 [.int .u32 (chunk dl k:Nat)] rfl rfl (cell_one_new _ _ _) ?pbc2 ?pbc3 ?pbc4 ?pbc5 ?_)
  case pbc2=>first|rfl|(intro u hu;simp at hu;subst hu;rfl)
  case pbc3=>unfold maxLen;omega
  case pbc4=>omega
  case pbc5=>have:=Y.size;have:=K.o;simp;omega
  intro v' w1 O h _;have b3:Below (w.heap.size+1) W0 w1:=(Y.alloc (by have:=Y.size;have:=K.o;omega) _).grown h (by have:=Y.size;have:=K.o;simp;omega) (fun q hq=>(E.lt q hq).1);clear h E Y
  go_wp2
  go_roundw
  case rel=>exact⟨k+1,by omega,V0 (by omega),by rw[Yv,Yk];exact O,b3⟩
  simp[intOf];omega
 have c8:k=I6 (s.size):=by unfold I6;omega
 have hL:Gc (w.heap.size+1) wr u4 (Uy dl):=by
  unfold Uy;rw[HZ.o,<-c8];refine Hc (e:=152) ?_ (fun x hx=>?_)
  ·simpa[Function.comp_def]using E
  rw[Yu]at hx;obtain⟨i,_,rfl⟩:=hx;exact Nj dl i HG.o
 have HL:=Hd hL;clear hL E c8
 go_wp2_with fail
 refine(Cq _ _ _ _ _ HL.o).mono ?_;rintro e w1 ⟨z,rfl,hcut,b5⟩;have hZ:=(hcut _ _ HL.o).bl b5;have J:Below (w.heap.size+1) W0 w1:=Y.trans (b5.mono (by have:=Y.size;have:=K.o;omega));have d8:w1.cell? ⟨w.heap.size,0,none⟩=some (.int .i64 0):=by
  rw[J.cell (p:=⟨w.heap.size,0,none⟩) (Ye _),<-G.o,Yd _ _ _ _ rfl];rfl
 have d9:w1.cell? ⟨w.heap.size,1,none⟩=some (.bool false):=by
  rw[J.cell (p:=⟨w.heap.size,1,none⟩) (Ye _),<-G.o,Yd _ _ _ _ rfl];rfl
 have e0:w1.cell? ⟨w.heap.size,2,none⟩=some (.slice none 0 0):=by
  rw[J.cell (p:=⟨w.heap.size,2,none⟩) (Ye _),<-G.o,Yd _ _ _ _ rfl];rfl
 have f8:w1.frozen? ⟨w.heap.size,0,none⟩=false:=by
  rw[J.frozen (p:=⟨w.heap.size,0,none⟩) (Ye _),<-G.o,Yy _ _ _ _ rfl]
 have f9:w1.frozen? ⟨w.heap.size,1,none⟩=false:=by
  rw[J.frozen (p:=⟨w.heap.size,1,none⟩) (Ye _),<-G.o,Yy _ _ _ _ rfl]
 have g0:w1.frozen? ⟨w.heap.size,2,none⟩=false:=by
  rw[J.frozen (p:=⟨w.heap.size,2,none⟩) (Ye _),<-G.o,Yy _ _ _ _ rfl]
 have b0:Up w w1:=by
  have h0:=Oy w (.cells #[.int .i64 0,.bool false,.slice none 0 0] 131);rw[G.o]at h0;exact h0.trans (J.mono (Y8 _))
 have HB:=Hd b0;have d6:=Hd hZ;obtain⟨z0,zn,za,zl,zc,e8⟩:=hZ.shape;subst e8;clear hcut b5 J Y b0 hZ
 go_wp2
 refine Jl ?_ rfl ⟨_,rfl,(((d6.o.setCell _ _ (Ye _)).setCell _ _ (Ye _)).setCell _ _ (Ye _)).mono (Y8 _),((HB.o.setCell leR _).setCell leR _).setCell leR _⟩;simp[results,results93,go_sem,d8,d9,e0]
theorem YF(s:ByteArray)(w:World)(hi:Ol s=true)(hn:Ur s=true) :
 Calls prog 93 #[.string s] w fun e w'=>∃z,e=.returned z/\Q5 w.heap.size w' z true (O0 (Uy (s.extract 1 s.size).data.toList))/\Up w w':=by
 obtain⟨R,b9,c6⟩:=Qs s hi;rw[Dg s hn]at R b9 c6;obtain⟨dl,a1⟩:=O2 ((s.extract 1 s.size).data.toList);have V:=Hd a1;have HZ:Hid (dl.length=(s.size - 1)):=by unfold Hid;rw[<-a1,<-Lib.size_eq];exact Dj s
 rw[Lib.size_eq,a1,HZ.o]at b9 c6;rw[a1]at R ⊢;have HG:=Hd R;have g1:0<s.size:=by omega
 have hm:((s[0].toNat:Int)==45)=true:=by have:=(X9 s hn).2;simp;omega
 obtain⟨i0,b1,d2,d3,d4⟩:=info_parts info_u32;obtain⟨W0,b4⟩:=O2 (w.alloc (.cells #[.int .i64 0,.bool false,.slice none 0 0] 131));have G:=Hd b4;have d0:W0.heap.size=w.heap.size+1:=by rw[<-b4];simp
 have K:=Hd d0;clear hi R d0 b4 hn a1
 go_in
 go_wp2
 rw[G.o]
 go_loopw [4,5] (fun v e wr=>∃k:Nat,9*k<=(s.size - 1)+8/\e=.int .i64 (((s.size - 1):Nat) - 9*k) /\
  wr.ownsRow (w.heap.size+1) 152 1 v k ((List.range k).map (fun i=>Value.int .u32 (chunk dl i:Nat)))/\Below (w.heap.size+1) W0 wr)
  (fun _ e _=>(intOf e).toNat)
 case atStart=>exact⟨0,by omega,V0 (by omega),World.ownsRow_nil _ _ _ _,Ji _ _⟩
 obtain⟨k,hk,rfl,E,Y⟩:=hrel
 by_cases g0:9*k<(s.size - 1)
 ·by_cases h9:9*k+9<=(s.size - 1)
  ·
   go_wp2
   go_loop [7,8] (fun t i=>∃j:Nat,(s.size - 1) - 9*k - 9<=j/\j<=(s.size - 1) - 9*k/\i=.int .i64 j/\t=.int .u32 (part dl ((s.size - 1) - 9*k - 9) j:Nat)) (fun _ i=>(s.size - 1) - 9*k - (intOf i).toNat)
   case atStart=>exact⟨(s.size - 1) - 9*k - 9,leR,by omega,V0 (by omega),by rw[Qy];rfl⟩
   obtain⟨j,b6,e3,rfl,rfl⟩:=hrel
   by_cases e5:j<(s.size - 1) - 9*k
   ·have a7:j<(s.extract 1 s.size).size:=by rw[Lib.size_eq,V.o,HZ.o];omega
    have e4:j<(s.size - 1):=by omega
    have e6:=Rq dl HG.o ((s.size - 1) - 9*k - 9) j (by omega);have e1:=Dt (s.extract 1 s.size) (by rw[V.o];exact HG.o) j a7;have HS:Hid (part dl ((s.size - 1) - 9*k - 9) (j+1)=part dl ((s.size - 1) - 9*k - 9) j*10+((s.extract 1 s.size)[j].toNat - 48)):=I0 (s.extract 1 s.size) dl V.o ((s.size - 1) - 9*k - 9) j b6 a7
    go_wp2
    go_round
    case rel=>exact⟨j+1,by omega,by omega,by go_num,by rw[HS.o];exact V0 (by omega)⟩
    simp[intOf];omega
   have a8:j=(s.size - 1) - 9*k:=by omega
   have Z:Hid (part dl ((s.size - 1) - 9*k - 9) j=chunk dl k):=by
    unfold Hid
    rw[a8];unfold part chunk;rw[HZ.o]
   have e2:=Nj dl k HG.o;rw[Z.o];clear a8 Z
   go_wp2_with (at_builtin;refine wpList_append_own _ rfl _ _ 129 rfl (w.heap.size+1) 152 i0 (.int .u32 0) 1 4 underlying129 b1 d2 d3 d4 rfl (by decide) _ _ _ rfl (E.alloc _) ⟨wr.heap.size,0,none⟩ 1 1 [.int .u32 (chunk dl k:Nat)] rfl rfl (cell_one_new _ _ _) ?nac2 ?nac3 ?nac4 ?nac5 ?_)
   case nac2=>first|rfl|(intro u hu;simp at hu;subst hu;rfl)
   case nac3=>unfold maxLen;omega
   case nac4=>omega
   case nac5=>have:=Y.size;have:=K.o;simp;omega
   intro v' w1 O h _;have b3:Below (w.heap.size+1) W0 w1:=(Y.alloc (by have:=Y.size;have:=K.o;omega) _).grown h (by have:=Y.size;have:=K.o;simp;omega) (fun q hq=>(E.lt q hq).1);clear h E Y
   go_wp2
   go_roundw
   case rel=>exact⟨k+1,by omega,V0 (by omega),by rw[Yv,Yk];exact O,b3⟩
   simp[intOf];omega
  go_wp2
  go_loop [7,8] (fun t i=>∃j:Nat,0<=j/\j<=(s.size - 1) - 9*k/\i=.int .i64 j/\t=.int .u32 (part dl (0) j:Nat)) (fun _ i=>(s.size - 1) - 9*k - (intOf i).toNat)
  case atStart=>exact⟨0,leR,by omega,V0 (by omega),by rw[Qy];rfl⟩
  obtain⟨j,b6,e3,rfl,rfl⟩:=hrel
  by_cases e5:j<(s.size - 1) - 9*k
  ·have a7:j<(s.extract 1 s.size).size:=by rw[Lib.size_eq,V.o,HZ.o];omega
   have e4:j<(s.size - 1):=by omega
   have e6:=Rq dl HG.o (0) j (by omega);have e1:=Dt (s.extract 1 s.size) (by rw[V.o];exact HG.o) j a7;have HS:Hid (part dl (0) (j+1)=part dl (0) j*10+((s.extract 1 s.size)[j].toNat - 48)):=I0 (s.extract 1 s.size) dl V.o (0) j b6 a7
   go_wp2
   go_round
   case rel=>exact⟨j+1,by omega,by omega,by go_num,by rw[HS.o];exact V0 (by omega)⟩
   simp[intOf];omega
  have a8:j=(s.size - 1) - 9*k:=by omega
  have Z:Hid (part dl (0) j=chunk dl k):=by
   unfold Hid
   rw[a8];unfold part chunk;rw[HZ.o];rw[show(s.size - 1) - 9*k - 9=0 by omega]
  have e2:=Nj dl k HG.o;rw[Z.o];clear a8 Z
  go_wp2_with (at_builtin;refine wpList_append_own _ rfl _ _ 129 rfl (w.heap.size+1) 152 i0 (.int .u32 0) 1 4 underlying129 b1 d2 d3 d4 rfl (by decide) _ _ _ rfl (E.alloc _) ⟨wr.heap.size,0,none⟩ 1 1 [.int .u32 (chunk dl k:Nat)] rfl rfl (cell_one_new _ _ _) ?nbc2 ?nbc3 ?nbc4 ?nbc5 ?_)
  case nbc2=>first|rfl|(intro u hu;simp at hu;subst hu;rfl)
  case nbc3=>unfold maxLen;omega
  case nbc4=>omega
  case nbc5=>have:=Y.size;have:=K.o;simp;omega
  intro v' w1 O h _;have b3:Below (w.heap.size+1) W0 w1:=(Y.alloc (by have:=Y.size;have:=K.o;omega) _).grown h (by have:=Y.size;have:=K.o;simp;omega) (fun q hq=>(E.lt q hq).1);clear h E Y
  go_wp2
  go_roundw
  case rel=>exact⟨k+1,by omega,V0 (by omega),by rw[Yv,Yk];exact O,b3⟩
  simp[intOf];omega
 have c8:k=I6 ((s.size - 1)):=by unfold I6;omega
 have hL:Gc (w.heap.size+1) wr u4 (Uy dl):=by
  unfold Uy;rw[HZ.o,<-c8];refine Hc (e:=152) ?_ (fun x hx=>?_)
  ·simpa[Function.comp_def]using E
  rw[Yu]at hx;obtain⟨i,_,rfl⟩:=hx;exact Nj dl i HG.o
 have HL:=Hd hL;clear hL E c8
 go_wp2_with fail
 refine(Cq _ _ _ _ _ HL.o).mono ?_;rintro e w1 ⟨z,rfl,hcut,b5⟩;have hZ:=(hcut _ _ HL.o).bl b5;have J:Below (w.heap.size+1) W0 w1:=Y.trans (b5.mono (by have:=Y.size;have:=K.o;omega));have d8:w1.cell? ⟨w.heap.size,0,none⟩=some (.int .i64 0):=by
  rw[J.cell (p:=⟨w.heap.size,0,none⟩) (Ye _),<-G.o,Yd _ _ _ _ rfl];rfl
 have d9:w1.cell? ⟨w.heap.size,1,none⟩=some (.bool false):=by
  rw[J.cell (p:=⟨w.heap.size,1,none⟩) (Ye _),<-G.o,Yd _ _ _ _ rfl];rfl
 have e0:w1.cell? ⟨w.heap.size,2,none⟩=some (.slice none 0 0):=by
  rw[J.cell (p:=⟨w.heap.size,2,none⟩) (Ye _),<-G.o,Yd _ _ _ _ rfl];rfl
 have f5:w1.frozen? ⟨w.heap.size,0,none⟩=false:=by
  rw[J.frozen (p:=⟨w.heap.size,0,none⟩) (Ye _),<-G.o,Yy _ _ _ _ rfl]
 have f8:w1.frozen? ⟨w.heap.size,1,none⟩=false:=by
  rw[J.frozen (p:=⟨w.heap.size,1,none⟩) (Ye _),<-G.o,Yy _ _ _ _ rfl]
 have f9:w1.frozen? ⟨w.heap.size,2,none⟩=false:=by
  rw[J.frozen (p:=⟨w.heap.size,2,none⟩) (Ye _),<-G.o,Yy _ _ _ _ rfl]
 have b0:Up w w1:=by
  have h0:=Oy w (.cells #[.int .i64 0,.bool false,.slice none 0 0] 131);rw[G.o]at h0;exact h0.trans (J.mono (Y8 _))
 have HB:=Hd b0;have d6:=Hd hZ;obtain⟨z0,zn,za,zl,zc,e7⟩:=hZ.shape;subst e7;clear hcut b5 J Y b0 hZ
 go_wp2
 refine Jl ?_ rfl ⟨_,rfl,(((d6.o.setCell _ _ (Ye _)).setCell _ _ (Ye _)).setCell _ _ (Ye _)).mono (Y8 _),((HB.o.setCell leR _).setCell leR _).setCell leR _⟩;simp[results,results93,go_sem,d8,d9,e0]
theorem Cp(s:ByteArray)(w:World)(hi:Ol s=true) :
 Calls prog 93 #[.string s] w fun e w'=>∃z,e=.returned z/\Q5 w.heap.size w' z (Ur s) (O0 (Uy (dgs s).data.toList))/\Up w w':=by
 cases hn:Ur s
 ·rw[Dh s hn];exact YL s w hi hn
 rw[Dg s hn];exact YF s w hi hn
def UI(s:ByteArray):List Nat:=O0 (Uy (dgs s).data.toList)
def BM(s:ByteArray):Bool:=Um (Ur s) (UI s)
def Qk(B:Nat)(w:World)(s:ByteArray)(n:Bool)(a:Option Addr)(l c:Nat):Prop:=
 Ol s=true->n=BM s/\Gc B w (.slice a l c) (UI s)
theorem Xo(s:ByteArray)(w:World)(hs:s.size<=maxLen) :
 Calls prog 159 #[.string s] w fun e w'=>∃n a l c,e=.returned (.tuple #[.agg #[.bool n,.slice a l c],.bool (Ol s)])/\Qk w.heap.size w' s n a l c/\Up w w':=by
 cases j:Ol s
 ·refine(Fk s w hs j).mono ?_;rintro e w' ⟨rfl,hb⟩;exact⟨_,_,_,_,rfl,(fun h=>by rw[j]at h;cases h),hb⟩
 refine(Dz s w hs j).mono ?_;rintro e w' ⟨v,rfl,q,hb⟩;obtain⟨a,E,rfl,_⟩:=id q;exact⟨_,_,_,_,rfl,fun _=>⟨rfl,q⟩,hb⟩
theorem Qk.bl{w':World}{s:ByteArray}{a:Option Addr}(h:Qk B w s n a l c)(hb:Up w w'):Qk B w' s n a l c:=
 fun hi=>⟨(h hi).1,(h hi).2.bl hb⟩
theorem Qk.mono{B':Nat}{s:ByteArray}{a:Option Addr}(h:Qk B w s n a l c)(hb:B'<=B):Qk B' w s n a l c:=
 fun hi=>⟨(h hi).1,(h hi).2.mono hb⟩
theorem Qk.setCell{s:ByteArray}{a:Option Addr}(h:Qk B w s n a l c)(p:Addr)(u:Value)(hp:p.block<B):Qk B (w.setCell p u) s n a l c:=
 fun hi=>⟨(h hi).1,(h hi).2.setCell p u hp⟩
def FM(z0:Int)(zn:Bool)(zl:Nat):Bool:=if 0<zl then zn else decide (z0<0)
theorem Rh(z0:Int)(zn:Bool)(za:Option Addr)(zl zc:Nat)(w:World) :
 Calls prog 109 #[.agg #[.int .i64 z0,.bool zn,.slice za zl zc]] w fun e w'=>e=.returned (.bool ((zl:Int)==0))/\w'=w.alloc (.cells #[.int .i64 z0,.bool zn,.slice za zl zc] 131):=by
 go_in
 go_wp2
 go_ret
 exact⟨rfl,rfl⟩
theorem Cr(z0:Int)(zn:Bool)(za:Option Addr)(zl zc:Nat)(w:World) :
 Calls prog 92 #[.agg #[.int .i64 z0,.bool zn,.slice za zl zc]] w fun e w'=>e=.returned (.bool (FM z0 zn zl))/\w'=w.alloc (.cells #[.int .i64 z0,.bool zn,.slice za zl zc] 131):=by
 by_cases h:0<zl
 ·have j:Hid (FM z0 zn zl=zn):=if_pos h
  go_in
  go_wp2
  go_ret
  exact⟨by rw[j.o];rfl,rfl⟩
 have j:Hid (FM z0 zn zl=decide (z0<0)):=if_neg h
 go_in
 go_wp2
 go_ret
 exact⟨by rw[j.o];rfl,rfl⟩
theorem Iy{W:World}(h:Up w W)(o:Obj):Up w (W.alloc o):=h.alloc h.size o
end Go.Proofs.YtfkagjelljnpdaaGreatDoor.Q
namespace Go.Proofs.YtfkagjelljnpdaaGreatDoor.Q
open ChangeShapes WideShapes ChangeAt RowKit
end Go.Proofs.YtfkagjelljnpdaaGreatDoor.Q
