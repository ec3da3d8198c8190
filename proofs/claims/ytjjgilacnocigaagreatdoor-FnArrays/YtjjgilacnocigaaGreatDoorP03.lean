import Derived.Deep.RegionWith
import Derived.Test.YtjjgilacnocigaaGreatDoorP02
set_option maxRecDepth 100000
set_option maxHeartbeats 4000000
namespace Go.Proofs.YtjjgilacnocigaaGreatDoor.Q
open ChangeShapes WideShapes ChangeAt RowKit Proofs.Tryz
variable {B R c l:Nat}{a:Option Addr}{n neg:Bool}{s:ByteArray}{w w':World}{z:Value}
def part (d:List UInt8)(a b:Nat):Nat:=N7 ((d.take b).drop a)
theorem Pi (d:List UInt8)(a:Nat):part d a a=0:=by
 unfold part;rw[Z0 (List.length_take_le _ _)];rfl
theorem QS (d:ByteArray)(a j:Nat)(h1:a<=j)(h2:j<d.size):part d.data.toList a (j+1)=part d.data.toList a j*10+(d[j].toNat - 48):=by
 unfold part;rw[Hb d j h2,Uu (by rw[Jm,<-Lib.size_eq];omega),Cr]
theorem Q8 (d:ByteArray)(dl:List UInt8)(hd:d.data.toList=dl)(a j:Nat)(h1:a<=j)(h2:j<d.size):part dl a (j+1)=part dl a j*10+(d[j].toNat - 48):=by
 subst hd;exact QS d a j h1 h2
theorem Cp (d:List UInt8)(h:∀ c∈d,D5 c)(a j:Nat)(hj:j<a+9):part d a j<100000000:=by
 unfold part;have E:=EQ ((d.take j).drop a) (fun c hc=>h c (Ya (Yp hc)));have D:((d.take j).drop a).length<=8:=by rw[Jr,Jm];omega
 have h3:10 ^ ((d.take j).drop a).length<=10 ^ 8:=J3 (by omega) D;have:(10:Nat) ^ 8=100000000:=by decide
 omega
theorem Ej.setCell {t:List Nat}(h:Ej B w z neg t)(p:Addr)(u:Value)(hp:p.block<B):Ej B (w.setCell p u) z neg t:=by
 obtain⟨d,j,h3⟩:=h;refine⟨d,j,?_⟩
 rcases h3 with⟨h3,v,rfl,D⟩|h3
 ·exact .inl ⟨h3,v,rfl,D.setCell p u hp⟩
 exact .inr h3
theorem Ej.mono {B':Nat}{t:List Nat}(h:Ej B w z neg t)(hb:B'<=B):Ej B' w z neg t:=by
 obtain⟨d,j,h3⟩:=h;refine⟨d,j,?_⟩
 rcases h3 with⟨h3,v,rfl,D⟩|h3
 ·exact .inl ⟨h3,v,rfl,D.mono hb⟩
 exact .inr h3
theorem Ej.shape {t:List Nat}(h:Ej B w z neg t):∃ (z0:Int) (zn:Bool) (za:Option Addr) (zl zc:Nat),z=.agg #[.int .i64 z0,.bool zn,.slice za zl zc]:=by
 obtain⟨d,j,h3⟩:=h
 rcases h3 with⟨h3,v,rfl,a,cap,rfl,_⟩|⟨_,rfl⟩
 ·exact⟨_,_,_,_,_,rfl⟩
 exact⟨_,_,_,_,_,rfl⟩
theorem KW (s:ByteArray)(w:World)(hi:Ow s=true)(hn:Ki s=false) :
 Calls prog 105 #[.string s] w fun e w'=>∃ z,e=.returned z/\Ej w.heap.size w' z false (Ov (Eo (s).data.toList))/\Up w w':=by
 obtain⟨I,b8,b9⟩:=G1 s hi;rw[Xh s hn] at I b8 b9;obtain⟨dl,U⟩:=O2 ((s).data.toList);have J:=Hd U;have HZ:Hid (dl.length=s.size):=by unfold Hid;rw[<-U,<-Lib.size_eq]
 rw[Lib.size_eq,U,HZ.o] at b8 b9;rw[U] at I ⊢;have HG:=Hd I;have e5:0<s.size:=by omega
 have hm:((s[0].toNat:Int)==45)=false:=by have:=YB s hn e5;simp;omega
 obtain⟨i0,a6,d0,d1,d2⟩:=info_parts info_u32;obtain⟨W0,b3⟩:=O2 (w.alloc (.cells #[.int .i64 0,.bool false,.slice none 0 0] 72));have E:=Hd b3;have c7:W0.heap.size=w.heap.size+1:=by rw[<-b3];simp
 have G:=Hd c7;clear hi I c7 b3 hn U
 go_in
 go_wp2
 rw[E.o]
 go_loopw [4,5] (fun v e wr=>∃ k:Nat,9*k<=s.size+8/\e=.int .i64 ((s.size:Nat) - 9*k) /\
  wr.ownsRow (w.heap.size+1) 127 1 v k ((List.range k).map (fun i=>Value.int .u32 (chunk dl i:Nat)))/\Below (w.heap.size+1) W0 wr)
  (fun _ e _=>(intOf e).toNat)
 case atStart=>exact⟨0,by omega,O5 (by omega),Vi _ _ _ _,Jj _ _⟩
 obtain⟨k,hk,rfl,D,K⟩:=hrel
 by_cases g0:9*k<s.size
 ·by_cases h9:9*k+9<=s.size
  ·
   go_wp2
   go_loop [7,8] (fun t i=>∃ j:Nat,s.size - 9*k - 9<=j/\j<=s.size - 9*k/\i=.int .i64 j/\t=.int .u32 (part dl (s.size - 9*k - 9) j:Nat)) (fun _ i=>s.size - 9*k - (intOf i).toNat)
   case atStart=>exact⟨s.size - 9*k - 9,O1,by omega,O5 (by omega),by rw[Pi];rfl⟩
   obtain⟨j,b5,e1,rfl,rfl⟩:=hrel
   by_cases e3:j<s.size - 9*k
   ·have V:j<(s).size:=by rw[Lib.size_eq,J.o,HZ.o];omega
    have e2:j<s.size:=by omega
    have e4:=Cp dl HG.o (s.size - 9*k - 9) j (by omega);have d9:=Ms (s) (by rw[J.o];exact HG.o) j V;have HS:Hid (part dl (s.size - 9*k - 9) (j+1)=part dl (s.size - 9*k - 9) j*10+((s)[j].toNat - 48)):=Q8 (s) dl J.o (s.size - 9*k - 9) j b5 V
    go_wp2
    go_round
    case rel=>exact⟨j+1,by omega,by omega,by go_num,by rw[HS.o];exact O5 (by omega)⟩
    simp[intOf];omega
   have Y:j=s.size - 9*k:=by omega
   have T:Hid (part dl (s.size - 9*k - 9) j=chunk dl k):=by
    unfold Hid
    rw[Y];unfold part chunk;rw[HZ.o]
   have e0:=Hy dl k HG.o;rw[T.o];clear Y T
   go_wp2_with (at_builtin;refine wpList_append_own _ rfl _ _ 70 rfl (w.heap.size+1) 127 i0 (.int .u32 0) 1 4 underlying70 a6 d0 d1 d2 rfl (by decide) _ _ _ rfl (D.alloc _) ⟨wr.heap.size,0,none⟩ 1 1 [.int .u32 (chunk dl k:Nat)] rfl rfl (cell_one_new _ _ _) ?pac2 ?pac3 ?pac4 ?pac5 ?_)
   case pac2=>first|rfl|(intro u hu;simp at hu;subst hu;rfl)
   case pac3=>unfold maxLen;omega
   case pac4=>omega
   case pac5=>have:=K.size;have:=G.o;simp;omega
   intro v' O H d _;have a8:Below (w.heap.size+1) W0 O:=(K.alloc (by have:=K.size;have:=G.o;omega) _).grown d (by have:=K.size;have:=G.o;simp;omega) (fun q hq=>(D.lt q hq).1);clear d D K
   go_wp2
   go_roundw
   case rel=>exact⟨k+1,by omega,O5 (by omega),by rw[Zw,Zc];exact H,a8⟩
   simp[intOf];omega
  go_wp2
  go_loop [7,8] (fun t i=>∃ j:Nat,0<=j/\j<=s.size - 9*k/\i=.int .i64 j/\t=.int .u32 (part dl (0) j:Nat)) (fun _ i=>s.size - 9*k - (intOf i).toNat)
  case atStart=>exact⟨0,O1,by omega,O5 (by omega),by rw[Pi];rfl⟩
  obtain⟨j,b5,e1,rfl,rfl⟩:=hrel
  by_cases e3:j<s.size - 9*k
  ·have V:j<(s).size:=by rw[Lib.size_eq,J.o,HZ.o];omega
   have e2:j<s.size:=by omega
   have e4:=Cp dl HG.o (0) j (by omega);have d9:=Ms (s) (by rw[J.o];exact HG.o) j V;have HS:Hid (part dl (0) (j+1)=part dl (0) j*10+((s)[j].toNat - 48)):=Q8 (s) dl J.o (0) j b5 V
   go_wp2
   go_round
   case rel=>exact⟨j+1,by omega,by omega,by go_num,by rw[HS.o];exact O5 (by omega)⟩
   simp[intOf];omega
  have Y:j=s.size - 9*k:=by omega
  have T:Hid (part dl (0) j=chunk dl k):=by
   unfold Hid
   rw[Y];unfold part chunk;rw[HZ.o];rw[show s.size - 9*k - 9=0 by omega]
  have e0:=Hy dl k HG.o;rw[T.o];clear Y T
  go_wp2_with (at_builtin;refine wpList_append_own _ rfl _ _ 70 rfl (w.heap.size+1) 127 i0 (.int .u32 0) 1 4 underlying70 a6 d0 d1 d2 rfl (by decide) _ _ _ rfl (D.alloc _) ⟨wr.heap.size,0,none⟩ 1 1 [.int .u32 (chunk dl k:Nat)] rfl rfl (cell_one_new _ _ _) ?pbc2 ?pbc3 ?pbc4 ?pbc5 ?_)
  case pbc2=>first|rfl|(intro u hu;simp at hu;subst hu;rfl)
  case pbc3=>unfold maxLen;omega
  case pbc4=>omega
  case pbc5=>have:=K.size;have:=G.o;simp;omega
  intro v' O H d _;have a8:Below (w.heap.size+1) W0 O:=(K.alloc (by have:=K.size;have:=G.o;omega) _).grown d (by have:=K.size;have:=G.o;simp;omega) (fun q hq=>(D.lt q hq).1);clear d D K
  go_wp2
  go_roundw
  case rel=>exact⟨k+1,by omega,O5 (by omega),by rw[Zw,Zc];exact H,a8⟩
  simp[intOf];omega
 have c6:k=X8 (s.size):=by unfold X8;omega
 have hL:Kn (w.heap.size+1) wr u4 (Eo dl):=by
  unfold Eo;rw[HZ.o,<-c6];refine Xq (e:=127) ?_ (fun x hx=>?_)
  ·simpa[Function.comp_def] using D
  rw[Z5] at hx;obtain⟨i,_,rfl⟩:=hx;exact Hy dl i HG.o
 have HL:=Hd hL;clear hL D c6
 go_wp2_with fail
 refine (Nt _ _ _ _ _ HL.o).mono ?_;rintro e O ⟨z,rfl,hcut,b4⟩;have hZ:=(hcut _ _ HL.o).bl b4;have F:Below (w.heap.size+1) W0 O:=K.trans (b4.mono (by have:=K.size;have:=G.o;omega));have d6:O.cell? ⟨w.heap.size,0,none⟩=some (.int .i64 0):=by
  rw[F.cell (p:=⟨w.heap.size,0,none⟩) (Yh _),<-E.o,Jg _ _ _ _ rfl];rfl
 have d7:O.cell? ⟨w.heap.size,1,none⟩=some (.bool false):=by
  rw[F.cell (p:=⟨w.heap.size,1,none⟩) (Yh _),<-E.o,Jg _ _ _ _ rfl];rfl
 have d8:O.cell? ⟨w.heap.size,2,none⟩=some (.slice none 0 0):=by
  rw[F.cell (p:=⟨w.heap.size,2,none⟩) (Yh _),<-E.o,Jg _ _ _ _ rfl];rfl
 have f7:O.frozen? ⟨w.heap.size,0,none⟩=false:=by
  rw[F.frozen (p:=⟨w.heap.size,0,none⟩) (Yh _),<-E.o,Jv _ _ _ _ rfl]
 have f8:O.frozen? ⟨w.heap.size,1,none⟩=false:=by
  rw[F.frozen (p:=⟨w.heap.size,1,none⟩) (Yh _),<-E.o,Jv _ _ _ _ rfl]
 have f9:O.frozen? ⟨w.heap.size,2,none⟩=false:=by
  rw[F.frozen (p:=⟨w.heap.size,2,none⟩) (Yh _),<-E.o,Jv _ _ _ _ rfl]
 have Z:Up w O:=by
  have h0:=Oo w (.cells #[.int .i64 0,.bool false,.slice none 0 0] 72);rw[E.o] at h0;exact h0.trans (F.mono (Ze _))
 have HB:=Hd Z;have d4:=Hd hZ;obtain⟨z0,zn,za,zl,zc,e6⟩:=hZ.shape;subst e6;clear hcut b4 F K Z hZ
 go_wp2
 refine Jh ?_ rfl ⟨_,rfl,(((d4.o.setCell _ _ (Yh _)).setCell _ _ (Yh _)).setCell _ _ (Yh _)).mono (Ze _),((HB.o.setCell O1 _).setCell O1 _).setCell O1 _⟩;simp[results,results105,go_sem,d6,d7,d8]
theorem KT (s:ByteArray)(w:World)(hi:Ow s=true)(hn:Ki s=true) :
 Calls prog 105 #[.string s] w fun e w'=>∃ z,e=.returned z/\Ej w.heap.size w' z true (Ov (Eo (s.extract 1 s.size).data.toList))/\Up w w':=by
 obtain⟨I,b8,b9⟩:=G1 s hi;rw[Xg s hn] at I b8 b9;obtain⟨dl,U⟩:=O2 ((s.extract 1 s.size).data.toList);have J:=Hd U;have HZ:Hid (dl.length=(s.size - 1)):=by unfold Hid;rw[<-U,<-Lib.size_eq];exact Cy s
 rw[Lib.size_eq,U,HZ.o] at b8 b9;rw[U] at I ⊢;have HG:=Hd I;have g0:0<s.size:=by omega
 have hm:((s[0].toNat:Int)==45)=true:=by have:=(I0 s hn).2;simp;omega
 obtain⟨i0,a6,d0,d1,d2⟩:=info_parts info_u32;obtain⟨W0,b3⟩:=O2 (w.alloc (.cells #[.int .i64 0,.bool false,.slice none 0 0] 72));have E:=Hd b3;have c7:W0.heap.size=w.heap.size+1:=by rw[<-b3];simp
 have G:=Hd c7;clear hi I c7 b3 hn U
 go_in
 go_wp2
 rw[E.o]
 go_loopw [4,5] (fun v e wr=>∃ k:Nat,9*k<=(s.size - 1)+8/\e=.int .i64 (((s.size - 1):Nat) - 9*k) /\
  wr.ownsRow (w.heap.size+1) 127 1 v k ((List.range k).map (fun i=>Value.int .u32 (chunk dl i:Nat)))/\Below (w.heap.size+1) W0 wr)
  (fun _ e _=>(intOf e).toNat)
 case atStart=>exact⟨0,by omega,O5 (by omega),Vi _ _ _ _,Jj _ _⟩
 obtain⟨k,hk,rfl,D,K⟩:=hrel
 by_cases f9:9*k<(s.size - 1)
 ·by_cases h9:9*k+9<=(s.size - 1)
  ·
   go_wp2
   go_loop [7,8] (fun t i=>∃ j:Nat,(s.size - 1) - 9*k - 9<=j/\j<=(s.size - 1) - 9*k/\i=.int .i64 j/\t=.int .u32 (part dl ((s.size - 1) - 9*k - 9) j:Nat)) (fun _ i=>(s.size - 1) - 9*k - (intOf i).toNat)
   case atStart=>exact⟨(s.size - 1) - 9*k - 9,O1,by omega,O5 (by omega),by rw[Pi];rfl⟩
   obtain⟨j,b5,e1,rfl,rfl⟩:=hrel
   by_cases e3:j<(s.size - 1) - 9*k
   ·have V:j<(s.extract 1 s.size).size:=by rw[Lib.size_eq,J.o,HZ.o];omega
    have e2:j<(s.size - 1):=by omega
    have e4:=Cp dl HG.o ((s.size - 1) - 9*k - 9) j (by omega);have d9:=Ms (s.extract 1 s.size) (by rw[J.o];exact HG.o) j V;have HS:Hid (part dl ((s.size - 1) - 9*k - 9) (j+1)=part dl ((s.size - 1) - 9*k - 9) j*10+((s.extract 1 s.size)[j].toNat - 48)):=Q8 (s.extract 1 s.size) dl J.o ((s.size - 1) - 9*k - 9) j b5 V
    go_wp2
    go_round
    case rel=>exact⟨j+1,by omega,by omega,by go_num,by rw[HS.o];exact O5 (by omega)⟩
    simp[intOf];omega
   have Y:j=(s.size - 1) - 9*k:=by omega
   have T:Hid (part dl ((s.size - 1) - 9*k - 9) j=chunk dl k):=by
    unfold Hid
    rw[Y];unfold part chunk;rw[HZ.o]
   have e0:=Hy dl k HG.o;rw[T.o];clear Y T
   go_wp2_with (at_builtin;refine wpList_append_own _ rfl _ _ 70 rfl (w.heap.size+1) 127 i0 (.int .u32 0) 1 4 underlying70 a6 d0 d1 d2 rfl (by decide) _ _ _ rfl (D.alloc _) ⟨wr.heap.size,0,none⟩ 1 1 [.int .u32 (chunk dl k:Nat)] rfl rfl (cell_one_new _ _ _) ?nac2 ?nac3 ?nac4 ?nac5 ?_)
   case nac2=>first|rfl|(intro u hu;simp at hu;subst hu;rfl)
   case nac3=>unfold maxLen;omega
   case nac4=>omega
   case nac5=>have:=K.size;have:=G.o;simp;omega
   intro v' O H d _;have a8:Below (w.heap.size+1) W0 O:=(K.alloc (by have:=K.size;have:=G.o;omega) _).grown d (by have:=K.size;have:=G.o;simp;omega) (fun q hq=>(D.lt q hq).1);clear d D K
   go_wp2
   go_roundw
   case rel=>exact⟨k+1,by omega,O5 (by omega),by rw[Zw,Zc];exact H,a8⟩
   simp[intOf];omega
  go_wp2
  go_loop [7,8] (fun t i=>∃ j:Nat,0<=j/\j<=(s.size - 1) - 9*k/\i=.int .i64 j/\t=.int .u32 (part dl (0) j:Nat)) (fun _ i=>(s.size - 1) - 9*k - (intOf i).toNat)
  case atStart=>exact⟨0,O1,by omega,O5 (by omega),by rw[Pi];rfl⟩
  obtain⟨j,b5,e1,rfl,rfl⟩:=hrel
  by_cases e3:j<(s.size - 1) - 9*k
  ·have V:j<(s.extract 1 s.size).size:=by rw[Lib.size_eq,J.o,HZ.o];omega
   have e2:j<(s.size - 1):=by omega
   have e4:=Cp dl HG.o (0) j (by omega);have d9:=Ms (s.extract 1 s.size) (by rw[J.o];exact HG.o) j V;have HS:Hid (part dl (0) (j+1)=part dl (0) j*10+((s.extract 1 s.size)[j].toNat - 48)):=Q8 (s.extract 1 s.size) dl J.o (0) j b5 V
   go_wp2
   go_round
   case rel=>exact⟨j+1,by omega,by omega,by go_num,by rw[HS.o];exact O5 (by omega)⟩
   simp[intOf];omega
  have Y:j=(s.size - 1) - 9*k:=by omega
  have T:Hid (part dl (0) j=chunk dl k):=by
   unfold Hid
   rw[Y];unfold part chunk;rw[HZ.o];rw[show (s.size - 1) - 9*k - 9=0 by omega]
  have e0:=Hy dl k HG.o;rw[T.o];clear Y T
  go_wp2_with (at_builtin;refine wpList_append_own _ rfl _ _ 70 rfl (w.heap.size+1) 127 i0 (.int .u32 0) 1 4 underlying70 a6 d0 d1 d2 rfl (by decide) _ _ _ rfl (D.alloc _) ⟨wr.heap.size,0,none⟩ 1 1 [.int .u32 (chunk dl k:Nat)] rfl rfl (cell_one_new _ _ _) ?nbc2 ?nbc3 ?nbc4 ?nbc5 ?_)
  case nbc2=>first|rfl|(intro u hu;simp at hu;subst hu;rfl)
  case nbc3=>unfold maxLen;omega
  case nbc4=>omega
  case nbc5=>have:=K.size;have:=G.o;simp;omega
  intro v' O H d _;have a8:Below (w.heap.size+1) W0 O:=(K.alloc (by have:=K.size;have:=G.o;omega) _).grown d (by have:=K.size;have:=G.o;simp;omega) (fun q hq=>(D.lt q hq).1);clear d D K
  go_wp2
  go_roundw
  case rel=>exact⟨k+1,by omega,O5 (by omega),by rw[Zw,Zc];exact H,a8⟩
  simp[intOf];omega
 have c6:k=X8 ((s.size - 1)):=by unfold X8;omega
 have hL:Kn (w.heap.size+1) wr u4 (Eo dl):=by
  unfold Eo;rw[HZ.o,<-c6];refine Xq (e:=127) ?_ (fun x hx=>?_)
  ·simpa[Function.comp_def] using D
  rw[Z5] at hx;obtain⟨i,_,rfl⟩:=hx;exact Hy dl i HG.o
 have HL:=Hd hL;clear hL D c6
 go_wp2_with fail
 refine (Nt _ _ _ _ _ HL.o).mono ?_;rintro e O ⟨z,rfl,hcut,b4⟩;have hZ:=(hcut _ _ HL.o).bl b4;have F:Below (w.heap.size+1) W0 O:=K.trans (b4.mono (by have:=K.size;have:=G.o;omega));have d6:O.cell? ⟨w.heap.size,0,none⟩=some (.int .i64 0):=by
  rw[F.cell (p:=⟨w.heap.size,0,none⟩) (Yh _),<-E.o,Jg _ _ _ _ rfl];rfl
 have d7:O.cell? ⟨w.heap.size,1,none⟩=some (.bool false):=by
  rw[F.cell (p:=⟨w.heap.size,1,none⟩) (Yh _),<-E.o,Jg _ _ _ _ rfl];rfl
 have d8:O.cell? ⟨w.heap.size,2,none⟩=some (.slice none 0 0):=by
  rw[F.cell (p:=⟨w.heap.size,2,none⟩) (Yh _),<-E.o,Jg _ _ _ _ rfl];rfl
 have f5:O.frozen? ⟨w.heap.size,0,none⟩=false:=by
  rw[F.frozen (p:=⟨w.heap.size,0,none⟩) (Yh _),<-E.o,Jv _ _ _ _ rfl]
 have f7:O.frozen? ⟨w.heap.size,1,none⟩=false:=by
  rw[F.frozen (p:=⟨w.heap.size,1,none⟩) (Yh _),<-E.o,Jv _ _ _ _ rfl]
 have f8:O.frozen? ⟨w.heap.size,2,none⟩=false:=by
  rw[F.frozen (p:=⟨w.heap.size,2,none⟩) (Yh _),<-E.o,Jv _ _ _ _ rfl]
 have Z:Up w O:=by
  have h0:=Oo w (.cells #[.int .i64 0,.bool false,.slice none 0 0] 72);rw[E.o] at h0;exact h0.trans (F.mono (Ze _))
 have HB:=Hd Z;have d4:=Hd hZ;obtain⟨z0,zn,za,zl,zc,e5⟩:=hZ.shape;subst e5;clear hcut b4 F K Z hZ
 go_wp2
 refine Jh ?_ rfl ⟨_,rfl,(((d4.o.setCell _ _ (Yh _)).setCell _ _ (Yh _)).setCell _ _ (Yh _)).mono (Ze _),((HB.o.setCell O1 _).setCell O1 _).setCell O1 _⟩;simp[results,results105,go_sem,d6,d7,d8]
theorem I9 (s:ByteArray)(w:World)(hi:Ow s=true) :
 Calls prog 105 #[.string s] w fun e w'=>∃ z,e=.returned z/\Ej w.heap.size w' z (Ki s) (Ov (Eo (dgs s).data.toList))/\Up w w':=by
 cases hn:Ki s
 ·rw[Xh s hn];exact KW s w hi hn
 rw[Xg s hn];exact KT s w hi hn
def Rf (s:ByteArray):List Nat:=Ov (Eo (dgs s).data.toList)
def oX (s:ByteArray):Bool:=Ko (Ki s) (Rf s)
def Ix (B:Nat)(w:World)(s:ByteArray)(n:Bool)(a:Option Addr)(l c:Nat):Prop:=
 Ow s=true->n=oX s/\Kn B w (.slice a l c) (Rf s)
theorem Ig (s:ByteArray)(w:World)(hs:s.size<=maxLen) :
 Calls prog 47 #[.string s] w fun e w'=>∃ n a l c,e=.returned (.tuple #[.agg #[.bool n,.slice a l c],.bool (Ow s)])/\Ix w.heap.size w' s n a l c/\Up w w':=by
 cases j:Ow s
 ·refine (Ra s w hs j).mono ?_;rintro e w' ⟨rfl,d⟩;exact⟨_,_,_,_,rfl,(fun h=>by rw[j] at h;cases h),d⟩
 refine (Ru s w hs j).mono ?_;rintro e w' ⟨v,rfl,D,d⟩;obtain⟨a,cap,rfl,_⟩:=id D;exact⟨_,_,_,_,rfl,fun _=>⟨rfl,D⟩,d⟩
theorem Ix.bl (h:Ix B w s n a l c)(hb:Up w w'):Ix B w' s n a l c:=
 fun hi=>⟨(h hi).1,(h hi).2.bl hb⟩
theorem Ix.mono {B':Nat}(h:Ix B w s n a l c)(hb:B'<=B):Ix B' w s n a l c:=
 fun hi=>⟨(h hi).1,(h hi).2.mono hb⟩
theorem Ix.setCell (h:Ix B w s n a l c)(p:Addr)(u:Value)(hp:p.block<B):Ix B (w.setCell p u) s n a l c:=
 fun hi=>⟨(h hi).1,(h hi).2.setCell p u hp⟩
theorem Wu (s t:ByteArray)(w:World)(hs:s.size<=maxLen)(ht:t.size<=maxLen) :
 Calls prog 86 #[.string s,.string t] w fun e w'=>∃ n a l c n' a' l' c',e=.returned (.tuple #[.agg #[.bool n,.slice a l c],.agg #[.bool n',.slice a' l' c'],.bool (Ow s&&Ow t)]) /\
  Ix w.heap.size w' s n a l c/\Ix w.heap.size w' t n' a' l' c'/\Up w w':=by
 obtain⟨H,K⟩:=O2 ((w.alloc (.cells #[.bool false,.slice none 0 0] 85)).alloc (.cells #[.bool false,.slice none 0 0] 85));have D:=Hd K;have d2:H.heap.size=w.heap.size+2:=by rw[<-K];simp
 have b6:Hid (Up w H):=by rw[<-K];exact ((Jj _ w).alloc O1 _).alloc (by simp) _
 clear K
 go_in
 go_wp2_with fail
 rw[D.o];refine (Ig s H hs).mono ?_;rintro e J ⟨n,a,l,c,rfl,a7,O⟩;obtain⟨E,G⟩:=O2 (J.alloc (.cells #[.bool n,.slice a l c] 85));have c7:=Hd G;have d7:E.heap.size=J.heap.size+1:=by rw[<-G];simp
 have d4:w.heap.size+2<=J.heap.size:=by have:=O.size;omega
 have j:Hid (Up H E):=by rw[<-G];exact O.alloc O.size _
 have b9:Hid (Ix H.heap.size E s n a l c):=by rw[<-G];exact a7.bl (Oo _ _)
 have b3:E.cell? ⟨J.heap.size,0,none⟩=some (.bool n):=by rw[<-G,Jg _ _ _ _ rfl];rfl
 have b4:E.cell? ⟨J.heap.size,1,none⟩=some (.slice a l c):=by rw[<-G,Jg _ _ _ _ rfl];rfl
 have d0:=Hd b3;have d1:=Hd b4;clear G b3 b4 O a7;obtain⟨bs,U⟩:∃ x,Ow s=x:=⟨_,rfl⟩;have b7:=Hd U;rw[U];clear U
 go_wp2_with fail
 rw[c7.o];refine (Ig t E ht).mono ?_;rintro e w2 ⟨n',a',l',c',rfl,a8,T⟩;have d5:J.heap.size+1<=w2.heap.size:=by have:=T.size;omega
 obtain⟨F,I⟩:=O2 (w2.alloc (.cells #[.bool n',.slice a' l' c'] 85));have c8:=Hd I;have d:Hid (Up E F):=by rw[<-I];exact T.alloc T.size _
 have c6:Hid (Ix E.heap.size F t n' a' l' c'):=by rw[<-I];exact a8.bl (Oo _ _)
 have y0:F.cell? ⟨J.heap.size,0,none⟩=some (.bool n):=by rw[d.o.cell (p:=⟨J.heap.size,0,none⟩) (by show J.heap.size<E.heap.size;omega)];exact d0.o
 have y1:F.cell? ⟨J.heap.size,1,none⟩=some (.slice a l c):=by rw[d.o.cell (p:=⟨J.heap.size,1,none⟩) (by show J.heap.size<E.heap.size;omega)];exact d1.o
 have v0:F.cell? ⟨w2.heap.size,0,none⟩=some (.bool n'):=by rw[<-I,Jg _ _ _ _ rfl];rfl
 have v1:F.cell? ⟨w2.heap.size,1,none⟩=some (.slice a' l' c'):=by rw[<-I,Jg _ _ _ _ rfl];rfl
 clear a8 T I;have p0:F.cell? ⟨w.heap.size,0,none⟩=some (.bool false):=by
  rw[d.o.cell (p:=⟨w.heap.size,0,none⟩) (by show w.heap.size<E.heap.size;omega),j.o.cell (p:=⟨w.heap.size,0,none⟩) (by show w.heap.size<H.heap.size;omega)];rw[<-D.o,Jk _ _ _ (by simp),Jg _ _ _ _ rfl];rfl
 have e0:F.frozen? ⟨w.heap.size,0,none⟩=false:=by
  rw[d.o.frozen (p:=⟨w.heap.size,0,none⟩) (by show w.heap.size<E.heap.size;omega),j.o.frozen (p:=⟨w.heap.size,0,none⟩) (by show w.heap.size<H.heap.size;omega)];rw[<-D.o,(Oo (w.alloc (.cells #[.bool false,.slice none 0 0] 85)) _).frozen (p:=⟨w.heap.size,0,none⟩) (by simp),Jv _ _ _ _ rfl]
 have p1:F.cell? ⟨w.heap.size,1,none⟩=some (.slice none 0 0):=by
  rw[d.o.cell (p:=⟨w.heap.size,1,none⟩) (by show w.heap.size<E.heap.size;omega),j.o.cell (p:=⟨w.heap.size,1,none⟩) (by show w.heap.size<H.heap.size;omega)];rw[<-D.o,Jk _ _ _ (by simp),Jg _ _ _ _ rfl];rfl
 have e1:F.frozen? ⟨w.heap.size,1,none⟩=false:=by
  rw[d.o.frozen (p:=⟨w.heap.size,1,none⟩) (by show w.heap.size<E.heap.size;omega),j.o.frozen (p:=⟨w.heap.size,1,none⟩) (by show w.heap.size<H.heap.size;omega)];rw[<-D.o,(Oo (w.alloc (.cells #[.bool false,.slice none 0 0] 85)) _).frozen (p:=⟨w.heap.size,1,none⟩) (by simp),Jv _ _ _ _ rfl]
 have q0:F.cell? ⟨w.heap.size+1,0,none⟩=some (.bool false):=by
  rw[d.o.cell (p:=⟨w.heap.size+1,0,none⟩) (by show w.heap.size+1<E.heap.size;omega),j.o.cell (p:=⟨w.heap.size+1,0,none⟩) (by show w.heap.size+1<H.heap.size;omega)];rw[<-D.o,Jg _ _ _ _ (by simp)];rfl
 have e2:F.frozen? ⟨w.heap.size+1,0,none⟩=false:=by
  rw[d.o.frozen (p:=⟨w.heap.size+1,0,none⟩) (by show w.heap.size+1<E.heap.size;omega),j.o.frozen (p:=⟨w.heap.size+1,0,none⟩) (by show w.heap.size+1<H.heap.size;omega)];rw[<-D.o,Jv _ _ _ _ (by simp)]
 have q1:F.cell? ⟨w.heap.size+1,1,none⟩=some (.slice none 0 0):=by
  rw[d.o.cell (p:=⟨w.heap.size+1,1,none⟩) (by show w.heap.size+1<E.heap.size;omega),j.o.cell (p:=⟨w.heap.size+1,1,none⟩) (by show w.heap.size+1<H.heap.size;omega)];rw[<-D.o,Jg _ _ _ _ (by simp)];rfl
 have e3:F.frozen? ⟨w.heap.size+1,1,none⟩=false:=by
  rw[d.o.frozen (p:=⟨w.heap.size+1,1,none⟩) (by show w.heap.size+1<E.heap.size;omega),j.o.frozen (p:=⟨w.heap.size+1,1,none⟩) (by show w.heap.size+1<H.heap.size;omega)];rw[<-D.o,Jv _ _ _ _ (by simp)]
 have Y:Hid (Up w F):=b6.o.trans ((j.o.mono (by omega)).trans (d.o.mono (by omega)));have Z:Hid (Ix (w.heap.size+2) F s n a l c):=by
  have h0:=b9.o.bl d.o;rw[d2] at h0;exact h0
 have a6:Hid (Ix (w.heap.size+2) F t n' a' l' c'):=c6.o.mono (by omega);obtain⟨bt,V⟩:∃ x,Ow t=x:=⟨_,rfl⟩;have b8:=Hd V;rw[V];clear V
 cases bs
 all_goals
  go_wp2
  rw[c8.o]
  go_region
  go_wp2
  refine Jh (v:=.tuple #[.agg #[.bool n,.slice a l c],.agg #[.bool n',.slice a' l' c'],.bool (_&&bt)]) ?_ rfl ⟨n,a,l,c,n',a',l',c',by rw[b7.o,b8.o],?_,?_,?_⟩
  ·simp[results,results86,go_sem,p0,p1,q0,q1]
  ·exact ((((Z.o.setCell _ _ (by show w.heap.size<_;omega)).setCell _ _ (by show w.heap.size<_;omega)).setCell _ _ (by show w.heap.size+1<_;omega)).setCell _ _ (by show w.heap.size+1<_;omega)).mono (by omega)
  ·exact ((((a6.o.setCell _ _ (by show w.heap.size<_;omega)).setCell _ _ (by show w.heap.size<_;omega)).setCell _ _ (by show w.heap.size+1<_;omega)).setCell _ _ (by show w.heap.size+1<_;omega)).mono (by omega)
  exact ((((Y.o.setCell O1 _).setCell O1 _).setCell (Ze _) _).setCell (Ze _) _).drew
def Rg (z0:Int)(zn:Bool)(zl:Nat):Bool:=if 0<zl then zn else decide (z0<0)
theorem O0 (z0:Int)(zn:Bool)(za:Option Addr)(zl zc:Nat)(w:World) :
 Calls prog 106 #[.agg #[.int .i64 z0,.bool zn,.slice za zl zc]] w fun e w'=>e=.returned (.bool ((zl:Int)==0))/\w'=w.alloc (.cells #[.int .i64 z0,.bool zn,.slice za zl zc] 72):=by
 go_in
 go_wp2
 go_ret
 exact⟨rfl,rfl⟩
theorem Ku (z0:Int)(zn:Bool)(za:Option Addr)(zl zc:Nat)(w:World) :
 Calls prog 74 #[.agg #[.int .i64 z0,.bool zn,.slice za zl zc]] w fun e w'=>e=.returned (.bool (Rg z0 zn zl))/\w'=w.alloc (.cells #[.int .i64 z0,.bool zn,.slice za zl zc] 72):=by
 by_cases h:0<zl
 ·have d:Hid (Rg z0 zn zl=zn):=if_pos h
  go_in
  go_wp2
  go_ret
  exact⟨by rw[d.o];rfl,rfl⟩
 have d:Hid (Rg z0 zn zl=decide (z0<0)):=if_neg h
 go_in
 go_wp2
 go_ret
 exact⟨by rw[d.o];rfl,rfl⟩
theorem ZZ (x y:Int)(w:World) :
 Calls prog 109 #[.agg #[.int .i64 x,.bool false,.slice none 0 0],.agg #[.int .i64 y,.bool false,.slice none 0 0]] w fun e w'=>e=.returned (.int .i64 (Nc x y))/\Up w w':=by
 by_cases j:x<y
 ·have d:Hid (Nc x y = -1):=if_pos j
  go_in
  go_wp2_with (go_at_call 106;refine (O0 _ _ _ _ _ _).mono ?_;rintro e w' ⟨rfl,rfl⟩)
  go_ret
  exact⟨Kw d.o.symm,(((((Jj _ w).alloc O1 _).alloc (by simp) _).alloc (by simp;omega) _).alloc (by simp;omega) _)⟩
 by_cases D:y<x
 case' pos=>
  have d:Hid (Nc x y=1):=(if_neg j).trans (if_pos D)
 case' neg=>
  have d:Hid (Nc x y=0):=(if_neg j).trans (if_neg D)
 all_goals
  go_in
  go_wp2_with (go_at_call 106;refine (O0 _ _ _ _ _ _).mono ?_;rintro e w' ⟨rfl,rfl⟩)
  go_ret
  exact⟨Kw d.o.symm,(((((Jj _ w).alloc O1 _).alloc (by simp) _).alloc (by simp;omega) _).alloc (by simp;omega) _)⟩
theorem Ou {W:World}(h:Up w W)(o:Obj):Up w (W.alloc o):=h.alloc h.size o
theorem Hs (a b:List Nat) : -1<=En a b/\En a b<=1:=by
 have h:∀ k,-1<=Ef a b k/\Ef a b k<=1:=fun k=>by
  induction k with
  | zero=>simp[Ef]
  | succ k ih=>simp only[Ef];split<;>(try split)<;>omega
 have:=h a.length;unfold En
 split<;>(try split)<;>omega
theorem Fl (l:List Nat)(k x:Nat)(hk:k<l.length):Ea (l.set k x) k=Ea l (k+1)*1000000000+x:=by
 rw[Xk _ _ (by simpa using hk)];have d:Ea (l.set k x) (k+1)=Ea l (k+1):=by
  unfold Ea;rw[List.drop_set_of_lt (by omega)]
 have j:(l.set k x).getD k 0=x:=by rw[Ji,List.getElem?_set_self (by omega)];rfl
 rw[d,j]
theorem DQ (Va Vq d r x Z:Nat)(h:Va=Vq*d+r)(hZ:r*1000000000+x=Z):Va*1000000000+x=(Vq*1000000000+Z / d)*d+Z % d:=by
 have j:=U0 Z d;rw[Zq,h,Zq,Nat.mul_right_comm,Yy (Z / d) d];omega
theorem TG (d r x Z:Nat)(hd:0<d)(hr:r<d)(hx:x<1000000000)(hZ:r*1000000000+x=Z):Z / d<1000000000:=by
 rw[U5 hd];have:(r+1)*1000000000<=d*1000000000:=Yc _ hr;omega
theorem Pf (B:Nat)(va:Value)(a:List Nat)(d:Nat)(w:World)(ha:Kn B w va a)(hla:a.length<=100000)(hd:0<d)(hd2:d<=1000000000) :
 Calls prog 213 #[va,.int .u32 (d:Nat)] w fun e w'=>∃ v q r,e=.returned (.tuple #[v,.int .u32 (r:Nat)])/\Kn w.heap.size w' v q/\Oq q/\q.length<=a.length/\val a=val q*d+r/\r<d/\Up w w':=by
 obtain⟨i0,b3,d8,d9,e0⟩:=info_parts info_u32;obtain⟨pa,ca,rfl,_⟩:=id ha;obtain⟨_,_,_,a7,H⟩:=ha.cells;have HA:=Hd H;clear H ha
 go_in
 go_wp2_with (at_make;refine wpList_make_full _ rfl _ _ 70 rfl w.heap.size 127 i0 (.int .u32 0) 1 underlying70 b3 d8 d9 .i64 .i64 _ _ a.length rfl rfl ?m0 ?m1 ?m2 ?m3 ?m4 ?_)
 try (case m0=>first|rfl|omega)
 try (case m1=>first|rfl|omega)
 try (case m2=>(first|omega|(rw[e0];omega)))
 try (case m3=>(unfold maxLen;omega))
 try (case m4=>exact O1)
 intro w1 F a8
 first|rw[Ee] at F|rw[K7] at F
 have I:Kv w1 w.heap.size (List.replicate a.length 0):=(Kt F).tail;have V:Up w w1:=(Jj _ _).grown a8 O1 (fun k h=>by cases h);clear F a8
 go_wp2
 go_loopw [7,8] (fun rv iv wr=>∃ (j r:Nat) (L:List Nat),j<=a.length/\r<d/\L.length=a.length/\Kx L/\Kv wr w.heap.size L/\rv=.int .u64 (r:Nat)/\iv=.int .i64 ((j:Int) - 1) /\
  Ea a j=Ea L j*d+r/\Up w wr) (fun _ iv _=>(intOf iv+1).toNat)
 case atStart=>exact⟨a.length,0,_,by omega,by omega,by simp,fun x hx=>by rw[Yu hx];omega,I,rfl,O5 (by omega),by rw[Ff];unfold Ea;simp[val],V⟩
 clear I V;obtain⟨j,r,L,hj,hr,d5,E,I,rfl,rfl,D,U⟩:=hrel
 cases j with
 | zero=>
   unfold Ea at D;rw[Y9,Y9] at D;have HI:Hid (Kn w.heap.size wr (.slice (some ⟨w.heap.size,0,none⟩) a.length a.length) L):=by
    have h:=I.isL (B:=w.heap.size) (cap:=a.length) O1 E (by omega) (by unfold maxLen;omega);rw[d5] at h;exact h
   have HT:Hid (val a=val (Ov L)*d+r/\(Ov L).length<=a.length/\Oq (Ov L)):=⟨by rw[O9];exact D,by have:=Kl L;omega,O8 _⟩;have c7:=Hd U;clear D I U E
   go_wp2_with fail
   refine (E6 w.heap.size _ L _ HI.o).mono ?_;rintro e w5 ⟨v,rfl,hcut,rfl⟩;have HW:Hid (Kn w.heap.size w5 v (Ov L)):=hcut _ _ HI.o;obtain⟨pv,cv,hv,_⟩:=HW.o;subst hv;clear hcut
   go_wp2
   go_ret2
   exact⟨_,_,r,rfl,HW.o,HT.o.2.2,HT.o.2.1,HT.o.1,hr,c7.o⟩
 | succ k=>
   obtain⟨ba,oa,rfl,b4,H⟩:=HA.o k (by omega);rw[<-U.cell (p:=⟨ba,oa+k,none⟩) b4] at H;have T:=Kk a a7 k (by omega);have O:=Xk a k (by omega);obtain⟨x,hx⟩:=O2 (a.getD k 0);rw[hx] at H T O;obtain⟨Z,hZ⟩:=O2 (r*1000000000+x);have K:=TG d r x Z hd hr T hZ;have b5:=Zy Z hd;have d3:Hid (Ea a k=Ea (L.set k (Z / d)) k*d+Z % d):=by
    unfold Hid
    rw[O,Fl L k _ (by omega)];exact DQ _ _ d r x Z D hZ
   have d6:=I.cell k (by omega);have e9:=I.frozen k;have d2:Hid (∀ v:Int,v=((Z / d:Nat):Int)->Kv (wr.setCell ⟨w.heap.size,k,none⟩ (.int .u32 v)) w.heap.size (L.set k (Z / d))):=fun v hv=>by
    rw[hv];exact I.set _ _ (by omega)
   have c6:Hid (∀ v,Up w (wr.setCell ⟨w.heap.size,k,none⟩ v)):=fun v=>U.setCell O1 _;have J:Hid (Kx (L.set k (Z / d))/\(L.set k (Z / d)).length=a.length):=⟨Kp L E _ _ K,by simp;omega⟩;obtain⟨X,hX⟩:∃ X:Int,(x:Int)=X:=⟨_,rfl⟩;rw[hX] at H;obtain⟨G,hG⟩:∃ G:Int,(d:Int)=G:=⟨_,rfl⟩;obtain⟨Y,hY⟩:∃ Y:Int,(r:Int)=Y:=⟨_,rfl⟩;have e1:(Y*1000000000+X) / G=((Z / d:Nat):Int):=by rw[<-hZ,<-hX,<-hG,<-hY];rfl
   have e2:(Y*1000000000+X) % G=((Z % d:Nat):Int):=by rw[<-hZ,<-hX,<-hG,<-hY];rfl
   have x1:0<=X:=by omega
   have x2:X<1000000000:=by omega
   have y1:0<=Y:=by omega
   have y2:Y<1000000000:=by omega
   have g1:0<G:=by omega
   have g2:G<=1000000000:=by omega
   have k1:0<=(Y*1000000000+X) / G:=by rw[e1];exact Uv _
   have k2:(Y*1000000000+X) / G<1000000000:=by rw[e1];exact Int.ofNat_lt.2 K
   have c8:Hid ((Y*1000000000+X) / G=((Z / d:Nat):Int)):=e1;have d0:Hid ((Y*1000000000+X) % G=((Z % d:Nat):Int)):=e2;have d1:=Hd b5;rw[hG,hY];clear I E D U O e1 e2 hx hX hG hY hZ T hr K b5
   go_wp2
   go_roundw
   case rel=>exact⟨k,Z % d,L.set k (Z / d),by omega,d1.o,J.o.2,J.o.1,d2.o _ c8.o,O5 d0.o,by go_num,d3.o,c6.o _⟩
   simp[intOf]
def Dx (x2 x1 x0 d1 d0 g:Nat):Prop:=
 g*(d1*1000000000+d0)<=(x2*1000000000+x1)*1000000000+x0/\(x2*1000000000+x1)*1000000000+x0<(g+1)*(d1*1000000000+d0)
def Qi (x2 x1 x0 d1 d0 g l:Nat):Prop:=
 g*d1+l=x2*1000000000+x1/\l<=2000000001/\g<=1000000001/\(x2*1000000000+x1)*1000000000+x0<(g+1)*(d1*1000000000+d0)
theorem YP (x2 x1 x0 d1 d0:Nat)(h1:500000000<=d1)(h2:d1<1000000000)(hx2:x2<=d1)(hx1:x1<1000000000)(hx0:x0<1000000000) :
 Qi x2 x1 x0 d1 d0 ((x2*1000000000+x1) / d1) ((x2*1000000000+x1) % d1):=by
 have e:=U0 (x2*1000000000+x1) d1;have l:=Zy (x2*1000000000+x1) (show d1 > 0 by omega);have g:(x2*1000000000+x1) / d1<=1000000001:=by
  apply Nat.le_of_lt_succ;rw[U5 (by omega)];omega
 obtain⟨q,d⟩:=O2 ((x2*1000000000+x1) / d1);obtain⟨r,j⟩:=O2 ((x2*1000000000+x1) % d1);rw[d,j];rw[d,j] at e;rw[j] at l;rw[d] at g;clear d j;refine⟨by rw[Yy];exact e,by omega,g,?_⟩;rw[Yi,<-Y5,Zq q 1 d1,Z8,Yy q d1];have:0<=(q+1)*d0:=J7 _;omega
theorem JW (T v l x0 u:Nat)(e:v+l=T)(hc:l*1000000000+x0<u):T*1000000000+x0<v*1000000000+u:=by
 subst e;rw[Zq,U1];exact Nat.add_lt_add_left hc _
theorem YR {x2 x1 x0 d1 d0 g:Nat}(h:Qi x2 x1 x0 d1 d0 g l)(h2:d1<1000000000)(hd0:d0<1000000000)(hc:l*1000000000+x0<g*d0) :
 1<=g/\Qi x2 x1 x0 d1 d0 (g - 1) (l+d1):=by
 obtain⟨e,hl,j,E⟩:=h;have D:1<=g:=by
  apply Y0;rintro rfl;rw[Ui] at hc;omega
 obtain⟨k,rfl⟩:∃ k,g=k+1:=⟨g - 1,by omega⟩;have p:(k+1)*d0<=1000000001*999999999:=Us j (by omega);rw[Vm];rw[Zq,Z8] at e;have d:l<1000000000:=by
  have:(1000000001*999999999:Nat)=1000000000*1000000000 - 1:=by decide
  omega
 refine⟨by omega,by omega,by omega,by omega,?_⟩;clear E p d hl j D;rw[Yi,<-Y5,Zq k 1 d1,Z8];exact JW _ _ l _ _ e hc
theorem XU {x2 x1 x0 d1 d0 g:Nat}(h:Qi x2 x1 x0 d1 d0 g l)(hc:g*d0<=l*1000000000+x0):Dx x2 x1 x0 d1 d0 g:=by
 obtain⟨e,hl,j,d⟩:=h;refine⟨?_,d⟩;rw[Yi,<-Y5];omega
theorem Am (R off cap D doff dcap n:Nat)(x2 x1 x0 d1 d0:Nat)(w:World)(hR:R<w.heap.size)(hn:2<=n)(hn2:n<=200000)
 (c2:w.cell? ⟨R,off+n,none⟩=some (.int .u32 (x2:Nat))) (c1:w.cell? ⟨R,off+(n - 1),none⟩=some (.int .u32 (x1:Nat))) (c0:w.cell? ⟨R,off+(n - 2),none⟩=some (.int .u32 (x0:Nat)))
 (e1:w.cell? ⟨D,doff+(n - 1),none⟩=some (.int .u32 (d1:Nat))) (e0:w.cell? ⟨D,doff+(n - 2),none⟩=some (.int .u32 (d0:Nat)))
 (h1:500000000<=d1) (h2:d1<1000000000) (h3:d0<1000000000) (hx2:x2<=d1) (hx1:x1<1000000000) (hx0:x0<1000000000) :
 Calls prog 244 #[.slice (some ⟨R,off,none⟩) (n+1) cap,.slice (some ⟨D,doff,none⟩) n dcap] w fun e w'=>∃ g:Nat,e=.returned (.int .u64 (g:Nat))/\Dx x2 x1 x0 d1 d0 g/\Up w w':=by
 have d6:Hid (Qi x2 x1 x0 d1 d0 ((x2*1000000000+x1) / d1) ((x2*1000000000+x1) % d1)):=YP x2 x1 x0 d1 d0 h1 h2 hx2 hx1 hx0;obtain⟨k,rfl⟩:∃ k,n=k+2:=⟨n - 2,by omega⟩;rw[show k+2 - 1=k+1 by omega] at c1 e1;rw[show k+2 - 2=k by omega] at c0 e0;have a7:Hid (∀ W,Up w W->W.cell? ⟨R,off+k,none⟩=some (.int .u32 (x0:Nat))):=fun W hW=>(hW.cell (p:=⟨R,off+k,none⟩) hR).trans c0;obtain⟨Z,J⟩:∃ X:Int,(x2:Int)=X:=⟨_,rfl⟩;obtain⟨Y,I⟩:∃ X:Int,(x1:Int)=X:=⟨_,rfl⟩;obtain⟨O,H⟩:∃ X:Int,(d1:Int)=X:=⟨_,rfl⟩;obtain⟨K,T⟩:∃ X:Int,(d0:Int)=X:=⟨_,rfl⟩;obtain⟨X0,V⟩:∃ X:Int,(x0:Int)=X:=⟨_,rfl⟩;have q1:(Z*1000000000+Y) / O=(((x2*1000000000+x1) / d1:Nat):Int):=by rw[<-J,<-I,<-H];rfl
 have q2:(Z*1000000000+Y) % O=(((x2*1000000000+x1) % d1:Nat):Int):=by rw[<-J,<-I,<-H];rfl
 have d4:Hid ((Z*1000000000+Y) / O=(((x2*1000000000+x1) / d1:Nat):Int)):=q1;have d5:Hid ((Z*1000000000+Y) % O=(((x2*1000000000+x1) % d1:Nat):Int)):=q2;have HL:Hid ((d1:Int)=O/\(d0:Int)=K/\(x0:Int)=X0):=⟨H,T,V⟩;have HH:Hid (d1<1000000000/\d0<1000000000):=⟨h2,h3⟩;rw[J] at c2;rw[I] at c1;rw[V] at c0 a7;rw[H] at e1;rw[T] at e0;have b1:0<=Z:=by omega
 have b2:Z<1000000000:=by omega
 have b3:0<=Y:=by omega
 have b4:Y<1000000000:=by omega
 have b5:500000000<=O:=by omega
 have b6:O<1000000000:=by omega
 have b7:0<=K:=by omega
 have b8:K<1000000000:=by omega
 have b9:0<=X0:=by omega
 have e3:X0<1000000000:=by omega
 clear J I H T V q1 q2 h1 h2 h3 hx2 hx1 hx0
 go_in
 go_wp2
 go_quiet (fail)
 go_wp2
 go_quiet (fail)
 go_wp2
 go_quiet (fail)
 go_wp2
 go_loopw [9,10] (fun gv lv wr=>∃ g l:Nat,gv=.int .u64 (g:Nat)/\lv=.int .u64 (l:Nat)/\Qi x2 x1 x0 d1 d0 g l/\Up w wr) (fun gv _ _=>(intOf gv).toNat)
 case atStart=>exact⟨_,_,O5 d4.o,O5 d5.o,d6.o,below_drewN (below_drewN (below_drewN (Jj _ _) _) _) _⟩
 obtain⟨g,l,rfl,rfl,U,hB⟩:=hrel;have e4:=a7.o _ hB;have HB:=Hd hB;have hg:=U.2.2.1;have hl:=U.2.1;have HG:=Hd U;have hp:g*d0<=1000000001*999999999:=Us hg (by have:=HH.o;omega);obtain⟨P,hP⟩:=O2 (g*d0);rw[hP] at hp;obtain⟨G,d⟩:∃ G:Int,(g:Int)=G:=⟨_,rfl⟩;obtain⟨L,j⟩:∃ L:Int,(l:Int)=L:=⟨_,rfl⟩;have E:G*K=(P:Int):=by rw[<-hP,<-d,<-HL.o.2.1];rfl
 have m1:0<=G*K:=by rw[E];omega
 have m2:G*K<=1000000001000000000:=by rw[E];omega
 have m3:0<=L:=by omega
 have m4:L<=2000000001:=by omega
 have m5:0<=G:=by omega
 have m6:G<=1000000001:=by omega
 by_cases hc:l*1000000000+x0<g*d0
 ·have HN:Hid (1<=g/\Qi x2 x1 x0 d1 d0 (g - 1) (l+d1)):=YR U HH.o.1 HH.o.2 hc;have t1:L*1000000000+X0<G*K:=by rw[E];rw[hP] at hc;have:=HL.o.2.2;omega
  have m7:1<=G:=by have:=HN.o.1;omega
  have F:Hid ((g:Int)=G/\(l:Int)=L):=⟨d,j⟩;rw[d,j];clear hB U hp hP E d j hg hl hc
  go_wp2
  go_roundw
  case rel=>exact⟨g - 1,l+d1,O5 (by have:=F.o;have:=HN.o.1;omega),O5 (by have:=F.o;have:=HL.o.1;omega),HN.o.2,HB.o⟩
  simp[intOf];have:=F.o;have:=HN.o.1;omega
 have HE:Hid (Dx x2 x1 x0 d1 d0 g):=XU U (by omega);have t1:G*K<=L*1000000000+X0:=by rw[E];rw[hP] at hc;have:=HL.o.2.2;omega
 have F:Hid ((g:Int)=G/\(l:Int)=L):=⟨d,j⟩;rw[d,j];clear hB U hp hP E d j hg hl hc
 go_wp2
 go_ret
 exact⟨g,Kw F.o.1.symm,HE.o,HB.o⟩
theorem WT (X3 D2 K xl dl g:Nat)(hxl:xl<K)(hdl:dl<K)(h1:g*D2<=X3)(h2:X3<(g+1)*D2)(hX3:X3<1000000000000000000000000000)(hD2:500000000000000000<=D2)
 (hX:X3*K+xl<(D2*K+dl)*1000000000) :
 g*(D2*K+dl)<=X3*K+xl+(D2*K+dl)/\X3*K+xl<(g+1)*(D2*K+dl)/\g<=1000000000:=by
 have a1:X3*K+xl<(g+1)*(D2*K+dl):=by
  have d:(X3+1)*K<=(g+1)*D2*K:=Yc K h2;have j:(g+1)*(D2*K+dl)=(g+1)*D2*K+(g+1)*dl:=by rw[Yi,Y5]
  rw[Zq,Z8] at d;omega
 have D:g<=D2:=by
  apply Vr;intro h;have d:500000000000000001*500000000000000000<=g*D2:=Us (by omega) hD2;omega
 have a2:g*(D2*K+dl)<=X3*K+xl+(D2*K+dl):=by
  have d:g*D2*K<=X3*K:=Yc K h1;have j:g*(D2*K+dl)=g*D2*K+g*dl:=by rw[Yi,Y5]
  have E:g*dl<=D2*K:=Us D (by omega);omega
 refine⟨a2,a1,?_⟩;apply Vr;intro h;have d:1000000001*(D2*K+dl)<=g*(D2*K+dl):=Yc _ h;omega
theorem NE (P Wn x Dv g c W':Nat)(h:W'+g*Dv=Wn+P*c)(hc:c<=x)(hX:Wn+P*x<(g+1)*Dv)(hD:Dv<=P):c=x/\Wn+P*x=g*Dv+W'/\W'<Dv:=by
 rw[Zq,Z8] at hX;have d:c=x:=by
  apply Nat.le_antisymm hc;apply Vr;intro j;have e:P*(c+1)<=P*x:=Jz P j;rw[Yi,Z7] at e;omega
 subst d;exact⟨rfl,by omega,by omega⟩
theorem NN (P Wn x Dv g c W' W2 c2:Nat)(h:W'+g*Dv=Wn+P*c)(hc:x<c)(hX:g*Dv<=Wn+P*x+Dv)(hW:W'<P)(hD:Dv<=P)(h2:W2+P*c2=W'+Dv)(hW2:W2<P) :
 1<=g/\Wn+P*x=(g - 1)*Dv+W2/\W2<Dv:=by
 obtain⟨k,rfl⟩:∃ k,c=x+1+k:=⟨c - x - 1,by omega⟩;have D:P*(x+1+k)=P*x+P+P*k:=by rw[Yi,Yi,Z7]
 rw[D] at h;have E:1<=g:=by
  apply Y0;rintro rfl;rw[Ui] at h;omega
 obtain⟨q,rfl⟩:∃ q,g=q+1:=⟨g - 1,by omega⟩;rw[Zq,Z8] at h hX;rw[Vm];have F:k=0:=by
  apply Nat.eq_zero_of_not_pos;intro j;have:P*1<=P*k:=Jz P j;omega
 subst F;rw[Vz] at h;have d:c2=1:=by
  have u:c2<2:=by
   apply Ur;intro j;have:P*2<=P*c2:=Jz P j;omega
  have l:c2≠0:=by
   rintro rfl;rw[Vz] at h2;omega
  omega
 subst d;rw[Z7] at h2;exact⟨E,by omega,by omega⟩
theorem oH (V a b K:Nat):V+K*a+K*1000000000*b=(b*1000000000+a)*K+V:=by grind
theorem oI (V a b c K:Nat):(b*1000000000+a)*K+V+K*1000000000*1000000000*c=((c*1000000000+b)*1000000000+a)*K+V:=by grind
theorem UE (l:List Nat)(k:Nat):val (l.take (k+2))=(l.getD (k+1) 0*1000000000+l.getD k 0)*1000000000 ^ k+val (l.take k):=by
 rw[Oz l (k+1),Oz l k,Ju];exact oH _ _ _ _
theorem LM (l:List Nat)(k:Nat):val (l.take (k+3))=((l.getD (k+2) 0*1000000000+l.getD (k+1) 0)*1000000000+l.getD k 0)*1000000000 ^ k+val (l.take k):=by
 rw[Oz l (k+2),UE,Ju,Ju];exact oI _ _ _ _ _
theorem S2 (l:List Nat)(h:Kx l)(n:Nat):Kx (l.take n):=fun x hx=>h x (Ya hx)
theorem Rb (l:List Nat)(h:Kx l)(n:Nat):Kx (l.drop n):=fun x hx=>h x (Yp hx)
theorem Gi (l:List Nat)(h:Kx l)(n:Nat):val (l.take n)<1000000000 ^ n:=Gr _ (S2 l h n) n (by rw[Jm];omega)
theorem NB (T x N:Nat)(hT:T<N)(hx:x<1000000000):T*1000000000+x<N*1000000000:=by
 have h:(T+1)*1000000000<=N*1000000000:=Yc _ hT;rw[Zq,Z8] at h;exact Js (Nat.add_lt_add_left hx _) h
theorem TT (x2 d1 W T P:Nat)(h:W+P*1000000000*x2<T*1000000000)(hT:T<P*(d1+1)):x2<=d1:=by
 apply Vr;intro d;have e:P*1000000000*(d1+1)<=P*1000000000*x2:=Jz _ d;have j:P*1000000000*(d1+1)=P*(d1+1)*1000000000:=by grind
 omega
theorem YD (M Dl:List Nat)(k g:Nat)(hM:Kx M)(hD:Kx Dl)(hl:Dl.length=k+2)(htop:500000000<=Dl.getD (k+1) 0)
 (hlt:val (M.take (k+3))<val Dl*1000000000) (hg:Dx (M.getD (k+2) 0) (M.getD (k+1) 0) (M.getD k 0) (Dl.getD (k+1) 0) (Dl.getD k 0) g) (hml:k+3<=M.length) :
 g*val Dl<=val (M.take (k+3))+val Dl/\val (M.take (k+3))<(g+1)*val Dl/\g<=1000000000:=by
 have j:=LM M k;have d:=UE Dl k;rw[Jf (by omega)] at d;have G:=Gi M hM k;have F:=Gi Dl hD k;have b2:=Kk M hM (k+2) (by omega);have b1:=Kk M hM (k+1) (by omega);have b0:=Kk M hM k (by omega);obtain⟨D,E⟩:=hg;rw[j,d] at hlt ⊢;exact WT _ _ _ _ _ g G F D E (NB _ _ 1000000000000000000 (NB _ _ 1000000000 b2 b1) b0) (by omega) hlt
theorem JQ (M Dl:List Nat)(k:Nat)(hD:Kx Dl)(hl:Dl.length=k+2)(hlt:val (M.take (k+3))<val Dl*1000000000):M.getD (k+2) 0<=Dl.getD (k+1) 0:=by
 have j:=Oz M (k+2);have d:=Oz Dl (k+1);rw[Jf (by omega)] at d;have D:=Gi Dl hD (k+1);rw[j,Ju] at hlt;exact TT _ _ _ _ (1000000000 ^ (k+1)) hlt (by rw[d,Yi,Z7];omega)
theorem YZ (R off cap D dcap k:Nat)(A Dl:List Nat)(w:World)(hR:Kv w R A)(hAok:Kx A)(hl:Dl.length=k+2)(hn:off+(k+3)<=A.length)(hA:A.length<=150000)(hD:Kv w D Dl)(hDR:D≠R)(hDok:Kx Dl)
 (htop:500000000<=Dl.getD (k+1) 0) (hlt:val ((A.drop off).take (k+3))<val Dl*1000000000) (hcap:k+3<=cap) :
 Calls prog 234 #[.slice (some ⟨R,off,none⟩) (k+3) cap,.slice (some ⟨D,0,none⟩) (k+2) dcap] w fun e w'=>∃ (q:Nat) (L:List Nat),e=.returned (.int .u32 (q:Nat))/\Kv w' R L/\L.length=A.length/\Kx L/\L.take off=A.take off/\q<1000000000 /\
  val ((A.drop off).take (k+3))=q*val Dl+val ((L.drop off).take (k+2))/\val ((L.drop off).take (k+2))<val Dl/\Only R w w':=by
 have HM:Hid (Kx (A.drop off)/\k+3<=(A.drop off).length):=⟨Rb A hAok off,by simp;omega⟩;have c2:=hR.cell (off+(k+2)) (by omega);have c1:=hR.cell (off+(k+1)) (by omega);have c0:=hR.cell (off+k) (by omega);have e1:=hD.cell (k+1) (by omega);have e0:=hD.cell k (by omega);have b1:=Kk A hAok (off+(k+1)) (by omega);have b0:=Kk A hAok (off+k) (by omega);have d1:=Kk Dl hDok (k+1) (by omega);have d0:=Kk Dl hDok k (by omega);have b9:=JQ (A.drop off) Dl k hDok hl hlt;rw[Iw] at b9;have d9:=hR.lt;have f5:=hD.lt;have HG:Hid (∀ W,True->Calls prog 244 #[.slice (some ⟨R,off,none⟩) (k+3) cap,.slice (some ⟨D,0,none⟩) (k+2) dcap] w fun e w'=>∃ g:Nat,e=.returned (.int .u64 (g:Nat))/\Dx (A.getD (off+(k+2)) 0) (A.getD (off+(k+1)) 0) (A.getD (off+k) 0) (Dl.getD (k+1) 0) (Dl.getD k 0) g/\Up w w'):=fun (_:World) _=>
  Am R off cap D 0 dcap (k+2) _ _ _ _ _ w d9 (by omega) (by omega) c2 (by rw[show k+2 - 1=k+1 by omega];exact c1) (by rw[show k+2 - 2=k by omega];exact c0) (by rw[show 0+(k+2 - 1)=k+1 by omega];exact e1) (by rw[show 0+(k+2 - 2)=k by omega];exact e0) htop d1 d0 b9 b1 b0
 have d2:Hid (Kv w R A/\Kv w D Dl):=⟨hR,hD⟩;have b3:Hid (val ((A.drop off).take (k+3))<val Dl*1000000000/\500000000<=Dl.getD (k+1) 0):=⟨hlt,htop⟩;clear c2 c1 c0 e1 e0 b1 b0 d1 d0 b9 hR hD hlt htop
 go_in
 go_wp2_with fail
 refine (HG.o w trivial).mono ?_;rintro e w1 ⟨g,rfl,hg,Z⟩;have b6:Only R w w1:=Only.of Z (by omega);have e7:=Hd b6;have H:Hid (Kv w1 R A/\Kv w1 D Dl):=by
  refine⟨?_,b6.rowT hDR d2.o.2⟩;obtain⟨t,h⟩:=d2.o.1;exact⟨t,(Z.block R d9).trans h⟩
 have hw:=YD (A.drop off) Dl k g HM.o.1 hDok hl b3.o.2 b3.o.1 (by rw[Iw,Iw,Iw];exact hg) HM.o.2;have HW:Hid (g*val Dl<=val ((A.drop off).take (k+3))+val Dl/\val ((A.drop off).take (k+3))<(g+1)*val Dl):=⟨hw.1,hw.2.1⟩;have f9:=hw.2.2;have d4:Hid (D<w1.heap.size):=Js f5 Z.size;clear hg Z b6 hw
 go_wp2_with fail
 have U:=Ll R off cap g (some ⟨D,0,none⟩) dcap A Dl w1 H.o.1 hAok (by omega) (by omega) hDok f9 (fun i hi=>⟨D,0,rfl,⟨d4.o,hDR⟩,by rw[Y3];exact H.o.2.cell i hi⟩);rw[hl] at U;refine U.mono ?_;clear U;rintro e w2 ⟨c,L,rfl,J,b5,O,b7,b8,i6,F,I⟩;have c8:Hid (Only R w w2):=e7.o.trans I;have d3:Hid (Kv w2 R L/\Kv w2 D Dl):=⟨J,I.rowT hDR H.o.2⟩;have e2:=J.cell (off+(k+2)) (by omega);have hx:=Qo L A (off+(k+2)) b7;rw[hx] at e2;obtain⟨x,c6⟩:=O2 (A.getD (off+(k+2)) 0);rw[c6] at e2;have g3:=Kk A hAok (off+(k+2)) (by omega);rw[c6] at g3;have j:=Hg A off (k+2);rw[c6] at j;have b4:val Dl<1000000000 ^ (k+2):=Gr Dl hDok _ (by omega);have e9:Hid (D<w2.heap.size):=Js d4.o I.bl.size;have d:Hid (Kv w2 R L/\L.length=A.length/\Kx L/\L.take off=A.take off):=⟨J,b5,O,b8⟩
 by_cases f8:c<=x
 ·have hr:=NE (1000000000 ^ (k+2)) _ x (val Dl) g c _ F f8 (by rw[<-j];exact HW.o.2) (by omega);have Y:Hid (g<1000000000/\val ((A.drop off).take (k+3))=g*val Dl+val ((L.drop off).take (k+2))/\val ((L.drop off).take (k+2))<val Dl):=by
   have hE:val ((A.drop off).take (k+3))=g*val Dl+val ((L.drop off).take (k+2)):=j.trans hr.2.1;refine⟨?_,hE,hr.2.2⟩;apply Ur;intro h9;have h8:1000000000*val Dl<=g*val Dl:=Yc _ h9;have:=b3.o.1;omega
  have t1:(c:Int)<=(x:Int):=by omega
  have gb:g<1000000000:=Y.o.1;clear F j hr J b5 O b7 b8 I hx b4
  go_wp2
  go_ret
  exact⟨g,L,rfl,d.o.1,d.o.2.1,d.o.2.2.1,d.o.2.2.2,Y.o.1,Y.o.2.1,Y.o.2.2,c8.o⟩
 have t1:(x:Int)<(c:Int):=by omega
 have HV:Hid (val ((L.drop off).take (k+2))+g*val Dl=val ((A.drop off).take (k+2))+1000000000 ^ (k+2)*c/\val ((A.drop off).take (k+3))=val ((A.drop off).take (k+2))+1000000000 ^ (k+2)*x/\val Dl<1000000000 ^ (k+2)/\x<c):=⟨F,j,b4,by omega⟩;have cb:(c:Int)<=1000000000:=by omega
 clear F j J b5 O b7 b8 I hx b4
 go_wp2_with fail
 have K:=Ap R off cap (some ⟨D,0,none⟩) dcap L Dl w2 d.o.1 d.o.2.2.1 (by have:=d.o.2.1;omega) (by have:=d.o.2.1;omega) hDok (fun i hi=>⟨D,0,rfl,⟨e9.o,hDR⟩,by rw[Y3];exact d3.o.2.cell i hi⟩);rw[hl] at K;refine K.mono ?_;clear K;rintro e w3 ⟨c3,L3,rfl,d8,d6,T,e3,a8,i1,V,d7⟩;have hr:=NN (1000000000 ^ (k+2)) _ x (val Dl) g c _ _ c3 HV.o.1 HV.o.2.2.2 (by rw[<-HV.o.2.1];exact HW.o.1) (Gi _ (Rb L d.o.2.2.1 off) _) (by have:=HV.o.2.2.1;omega) V (Gi _ (Rb L3 T off) _);have Y:Hid (1<=g/\g - 1<1000000000/\val ((A.drop off).take (k+3))=(g - 1)*val Dl+val ((L3.drop off).take (k+2))/\val ((L3.drop off).take (k+2))<val Dl):=⟨hr.1,by omega,HV.o.2.1.trans hr.2.1,hr.2.2⟩;have E:Hid (Kv w3 R L3/\L3.length=A.length/\Kx L3/\L3.take off=A.take off):=⟨d8,by rw[d6];exact d.o.2.1,T,a8.trans d.o.2.2.2⟩;have e8:Hid (Only R w w3):=c8.o.trans d7;obtain⟨G,hG⟩:∃ G:Int,(g:Int)=G:=⟨_,rfl⟩;have g1:1<=G:=by have:=Y.o.1;omega
 have g2:G<=1000000000:=by omega
 have e6:=Hd hG;rw[hG];clear hr d8 d6 T e3 a8 V d7 hG
 go_wp2
 go_ret
 exact⟨g - 1,L3,Kw (by have:=e6.o;have:=Y.o.1;omega),E.o.1,E.o.2.1,E.o.2.2.1,E.o.2.2.2,Y.o.2.1,Y.o.2.2.1,Y.o.2.2.2,e8.o⟩
theorem EJ (t s:Nat)(ht:1<=t)(ht2:t<1000000000)(h1:s*(t+1)<=1000000000)(h2:1000000000<(s+1)*(t+1)):500000000<=s*t:=by
 by_cases a:t=1
 ·subst a;omega
 by_cases b:s=1
 ·subst b;omega
 by_cases c:s=0
 ·subst c;omega
 obtain⟨u,rfl⟩:∃ u,s=u+2:=⟨s - 2,by omega⟩;obtain⟨v,rfl⟩:∃ v,t=v+2:=⟨t - 2,by omega⟩;have d:(u+2+1)*(v+2+1)=u*v+3*u+3*v+9:=by grind
 have j:(u+2)*(v+2)=u*v+2*u+2*v+4:=by grind
 rw[d] at h2;rw[j];omega
theorem RV (s t P vb:Nat)(hs:1<=s)(h1:s*(t+1)<=1000000000)(hb:vb<P*(t+1)):s*vb<P*1000000000:=by
 have d:s*(vb+1)<=s*(P*(t+1)):=Jz s hb;have j:s*(P*(t+1))=P*(s*(t+1)):=by grind
 have D:P*(s*(t+1))<=P*1000000000:=Jz P h1;rw[Yi,Z7] at d;omega
theorem RU (s t P vb dt W:Nat)(hb:vb=W+P*t)(hd:s*vb<P*(dt+1)):s*t<=dt:=by
 apply Nat.le_of_lt_succ;apply Ur;intro h;have j:P*(dt+1)<=P*(s*t):=Jz P h;have d:s*(W+P*t)=s*W+P*(s*t):=by grind
 rw[hb,d] at hd;omega
theorem XZ (P Q V s va vb:Nat)(h:P*V<=s*va)(hva:va<P*Q)(hvb:Q<=vb)(hs:1<=s):V<s*vb:=by
 have d:s*(va+1)<=s*(P*Q):=Jz s hva;have D:s*(P*Q)=P*(s*Q):=by grind
 have j:s*Q<=s*vb:=Jz s hvb;apply Js ?_ j;apply Ur;intro h3;have E:P*(s*Q)<=P*V:=Jz P h3;rw[Yi,Z7] at d;omega
theorem Ti (x T Dv:Nat)(hx:x<1000000000)(hT:T<Dv):x+1000000000*T<Dv*1000000000:=by
 have:1000000000*(T+1)<=1000000000*Dv:=Jz _ hT;omega
theorem FC (S Vq P Dv Lo X q W:Nat)(h:S=Vq*(P*1000000000)*Dv+(Lo+P*X))(hX:X=q*Dv+W):S=(Vq*1000000000+q)*P*Dv+(Lo+P*W):=by
 rw[h,hX]
 grind
theorem MT (s va vb Q W U r:Nat)(hs:1<=s)(h:s*va=Q*(s*vb)+W)(hW:W<s*vb)(hU:W=U*s+r)(hr:r<s):va=Q*vb+U/\U<vb:=by
 have E:Q*(s*vb)=s*(Q*vb):=by grind
 rw[E,hU] at h;have G:Q*vb<=va:=by
  apply Vr;intro d;have:s*(va+1)<=s*(Q*vb):=Jz s d;rw[Yi,Z7] at this;omega
 obtain⟨y,rfl⟩:∃ y,va=Q*vb+y:=⟨va - Q*vb,by omega⟩;have F:s*y=U*s+r:=by
  rw[Yi] at h;omega
 have D:U=y:=by
  have H:y*s=U*s+r:=by rw[Yy];exact F
  apply Nat.le_antisymm
  ·apply Vr;intro d;have:(y+1)*s<=U*s:=Yc s d;rw[Zq,Z8] at this;omega
  apply Vr;intro d;have:(U+1)*s<=y*s:=Yc s d;rw[Zq,Z8] at this;omega
 subst D;refine⟨rfl,?_⟩;apply Ur;intro j;have:s*vb<=s*U:=Jz s j;omega
theorem Ws (L:List Nat)(i n:Nat)(h:i<=L.length):val (L.take (i+n))=val (L.take i)+1000000000 ^ i*val ((L.drop i).take n):=by
 rw[List.take_add,Di,Jm,Vd h]
theorem Wb (L:List Nat)(i n:Nat)(h:i<L.length):val ((L.drop i).take (n+1))=L.getD i 0+1000000000*val ((L.drop (i+1)).take n):=by
 rw[Yw h,List.take_succ_cons,val,Ji,Jl h];rfl
theorem Kv.other {l:List Nat}(h:Kv w R l)(p:Addr)(u:Value)(hp:p.block≠R):Kv (w.setCell p u) R l:=by
 obtain⟨t,h⟩:=h;refine⟨t,Eq.trans ?_ h⟩
 show (w.heap.modify p.block _)[R]? = _
 rw[U3,if_neg hp]
theorem Kv.kept {l:List Nat}(h:Kv w R l)(hb:Up w w'):Kv w' R l:=by
 have d:=h.lt;obtain⟨t,h⟩:=h;exact⟨t,(hb.block R d).trans h⟩
theorem Kv.keptB {N:Nat}{l:List Nat}(h:Kv w R l)(hb:Below N w w')(hR:R<N):Kv w' R l:=by
 obtain⟨t,h⟩:=h;exact⟨t,(hb.block R hR).trans h⟩
structure DivAt (a b:List Nat)(s k m:Nat)(Dl L Q:List Nat)(j:Nat):Prop where
 len:L.length=k+2+m+1
 ok:Kx L
 qlen:Q.length=m+1
 qok:Kx Q
 le:j<=m+1
 eq:s*val a=Ea Q j*1000000000 ^ j*val Dl+val (L.take (j+(k+2)))
 top:val ((L.drop j).take (k+2))<val Dl
theorem DivAt.step {a b:List Nat}{s k m:Nat}{Dl L Q:List Nat}{i:Nat}(h:DivAt a b s k m Dl L Q (i+1)){q:Nat}{L':List Nat}(hq:q<1000000000)(hL:L'.length=L.length)(hok:Kx L')(htk:L'.take i=L.take i)
 (hX:val ((L.drop i).take (k+3))=q*val Dl+val ((L'.drop i).take (k+2))) (ht:val ((L'.drop i).take (k+2))<val Dl):DivAt a b s k m Dl L' (Q.set i q) i:=by
 have d:=h.le;refine⟨hL.trans h.len,hok,by simp[h.qlen],Kp Q h.qok i q hq,by omega,?_,ht⟩;have e:=h.eq;rw[show i+1+(k+2)=i+(k+3) by omega,Ws L i (k+3) (by have:=h.len;omega),Ju] at e;rw[Fl Q i q (by have:=h.qlen;omega),Ws L' i (k+2) (by have:=h.len;omega),htk];exact FC _ _ _ _ _ _ q _ e hX
theorem DivAt.window {a b:List Nat}{s k m:Nat}{Dl L Q:List Nat}{i:Nat}(h:DivAt a b s k m Dl L Q (i+1)):val ((L.drop i).take (k+3))<val Dl*1000000000:=by
 have d:=h.le;have hl:=h.len;rw[Wb L i (k+2) (by omega)];exact Ti _ _ _ (Kk L h.ok i (by omega)) h.top
theorem Cv (b:List Nat)(k:Nat)(hl:b.length=k+1)(ht:Oq b):1<=b.getD k 0:=by
 have d:b≠[]:=by intro h;rw[h] at hl;simp at hl
 have h:=ht d;rw[List.getLast_eq_getElem] at h;have e:b.getD k 0=b[b.length - 1]'(by omega):=by
  rw[Ji,Jl (by omega)];simp[hl]
 omega
theorem YY (B:Nat)(va vb:Value)(a b:List Nat)(k m:Nat)(w:World)(ha:Kn B w va a)(hb:Kn B w vb b)(hlb:b.length=k+2)(hla:a.length=k+2+m)(hmx:k+2+m<=100000)(htb:Oq b) :
 Calls prog 214 #[va,vb] w fun e w'=>∃ v u Q U,e=.returned (.tuple #[v,u])/\Kn w.heap.size w' v Q/\Kn w.heap.size w' u U/\Oq Q/\Oq U/\Q.length<=m+1/\U.length<=k+2/\val a=val Q*val b+val U/\val U<val b/\Up w w':=by
 obtain⟨i0,b5,g2,g3,g4⟩:=info_parts info_u32;obtain⟨pa,ca,rfl,_⟩:=id ha;obtain⟨pb,cb,rfl,_⟩:=id hb;obtain⟨_,_,_,d4,j4⟩:=ha.cells;obtain⟨_,_,_,b3,e8⟩:=hb.cells;have HA:=Hd j4;have HB:=Hd e8;obtain⟨bb,ob,rfl,q8,f5⟩:=e8 (k+1) (by omega);have k0:=Cv b (k+1) hlb htb;have k1:=Kk b b3 (k+1) (by omega);obtain⟨t,ht⟩:=O2 (b.getD (k+1) 0);obtain⟨s,hs⟩:=O2 (1000000000 / (t+1));have f7:s*(t+1)<=1000000000:=by rw[<-hs];exact Nat.div_mul_le_self _ _
 have j8:1000000000<(s+1)*(t+1):=by
  have:=Nat.lt_div_mul_add (a:=1000000000) (b:=t+1) (by omega);rw[hs] at this;rw[Zq,Z8];exact this
 rw[ht] at k0 k1 f5;have j9:1<=s:=by
  apply Y0;rintro rfl;omega
 have n6:s<=500000000:=by
  have:s*2<=s*(t+1):=Jz s (by omega);omega
 have H:Hid (1<=s/\s*(t+1)<=1000000000/\500000000<=s*t/\b.getD (k+1) 0=t/\s<=500000000):=⟨j9,f7,EJ t s k0 k1 f7 j8,ht,n6⟩;rw[hlb,hla];obtain⟨T,hT⟩:∃ T:Int,(t:Int)=T:=⟨_,rfl⟩;have n7:1000000000 / (T+1)=(s:Int):=by rw[<-hs,<-hT];rfl
 rw[hT] at f5;have t1:1<=T:=by omega
 have t2:T<1000000000:=by omega
 clear j4 e8 ha hb f7 j8 hs ht hT
 go_in
 go_wp2_with (at_make;refine wpList_make_full _ rfl _ _ 70 rfl w.heap.size 127 i0 (.int .u32 0) 1 underlying70 b5 g2 g3 .i64 .i64 _ _ (k+2+m+1) rfl rfl (by first|rfl|omega) (by first|rfl|omega) (by first|omega|(rw[g4];omega)) (by unfold maxLen;omega) O1 ?_)
 intro w1 d K
 first|rw[Ee] at d|rw[K7] at d
 have e2:Kv w1 w.heap.size (List.replicate (k+2+m+1) 0):=(Kt d).tail;have i1:Up w w1:=(Jj _ _).grown K O1 (fun k h=>by cases h);have m5:=Hd e2;have g8:=Hd i1;have n9:Hid (w.heap.size<w1.heap.size):=e2.lt;clear d K e2 i1 f5 t1 t2 n7
 go_wp2_with fail
 have G:=Xm w.heap.size 0 (k+2+m+1) s _ pa ca (List.replicate (k+2+m+1) 0) a w1 m5.o (fun x hx=>by rw[Yu hx];omega) (by simp;omega) (by simp;omega) d4 rfl (by omega) (by have:=H.o.2.2.2.2;omega) (fun i hi=>by
  obtain⟨c,b6,e,hc,e9⟩:=HA.o i hi;exact⟨c,b6,e,hc,by rw[g8.o.cell (p:=⟨c,b6+i,none⟩) hc];exact e9⟩)
 rw[hla] at G;refine G.mono ?_;clear G;rintro e Y ⟨c,L,rfl,a8,a7,d5,j5,hc,f9,j2⟩;have b4:=a8.cell (k+2+m) (by rw[a7];simp);have j7:=a8.frozen (k+2+m);have h0:L.getD (k+2+m) 0=0:=by
  rw[Hv L _ (0+(k+2+m)) (k+2+m) j5 (by omega)];simp[List.getD_eq_getElem?_getD]
 have g1:=Rz L (k+2+m) c (by rw[a7];simp);rw[h0,Vz,Vt] at g1;rw[N5,Y3,Y3,Nat.pow_zero,Z8] at f9;have V:Hid (val (L.set (k+2+m) c)=s*val a/\Kx (L.set (k+2+m) c)/\(L.set (k+2+m) c).length=k+2+m+1):=⟨g1.trans f9,Kp L d5 _ _ (by have:=H.o.2.2.2.2;omega),by simp[a7]⟩;have d9:Hid (Kv (Y.setCell ⟨w.heap.size,k+2+m,none⟩ (.int .u32 (c:Nat))) w.heap.size (L.set (k+2+m) c)):=a8.set _ _ (by rw[a7];simp);have g9:Hid (Up w (Y.setCell ⟨w.heap.size,k+2+m,none⟩ (.int .u32 (c:Nat)))):=(g8.o.trans j2).setCell O1 _;have q9:c<1000000000:=by have:=H.o.2.2.2.2;omega
 have h7:Hid (w.heap.size<Y.heap.size):=a8.lt;clear a8 a7 d5 j5 hc f9 j2 h0 g1;obtain⟨W3,e3⟩:=O2 (Y.setCell ⟨w.heap.size,k+2+m,none⟩ (.int .u32 (c:Nat)));have h9:=Hd e3;generalize L.set (k+2+m) c=N at V d9;rw[e3] at d9 g9;clear e3;have j9:W3.heap.size=Y.heap.size:=by rw[<-h9.o];simp
 have E:Hid (w.heap.size<Y.heap.size):=h7.o
 go_wp2_with (at_make;refine wpList_make_full _ rfl _ _ 70 rfl Y.heap.size 127 i0 (.int .u32 0) 1 underlying70 b5 g2 g3 .i64 .i64 _ _ (k+2) rfl rfl (by first|rfl|omega) (by first|rfl|omega) (by first|omega|(rw[g4];omega)) (by unfold maxLen;omega) (by simp) ?_)
 intro w4 d K;rw[h9.o] at K
 first|rw[Ee] at d|rw[K7] at d
 have i6:Kv w4 Y.heap.size (List.replicate (k+2) 0):=(Kt d).tail;have b9:Below Y.heap.size W3 w4:=(Jj _ _).grown K (by omega) (fun k h=>by cases h);have l8:=Hd i6;have p4:=Hd b9;have d1:Hid (Up w w4):=g9.o.trans (b9.mono (by have:=E.o;omega));have m6:Hid (Kv w4 w.heap.size N):=d9.o.keptB b9 E.o;clear d K i6 b9 b4 j7
 go_wp2_with fail
 have G:=Xm Y.heap.size 0 (k+2) s _ (some ⟨bb,ob,none⟩) cb (List.replicate (k+2) 0) b w4 l8.o (fun x hx=>by rw[Yu hx];omega) (by simp;omega) (by simp;omega) b3 rfl (by omega) (by have:=H.o.2.2.2.2;omega) (fun i hi=>by
  obtain⟨c,b6,e,hc,e9⟩:=HB.o i hi;exact⟨c,b6,e,by have:=E.o;omega,by rw[d1.o.cell (p:=⟨c,b6+i,none⟩) hc];exact e9⟩)
 rw[hlb] at G;refine G.mono ?_;clear G;rintro e I ⟨c5,O,rfl,i7,d2,a6,j6,n2,g0,e5⟩;rw[N5,Y3,Y3,Nat.pow_zero,Z8] at g0;have e7:val b=val (b.take (k+1))+1000000000 ^ (k+1)*t:=by
  have h:=Oz b (k+1);rw[Jf (by omega),H.o.2.2.2.1] at h;exact h
 have j3:val b<1000000000 ^ (k+1)*(t+1):=by
  rw[e7,Yi,Z7];have:=Gi b b3 (k+1);omega
 have d3:O.length=k+2:=by rw[d2];simp
 have c7:val O=s*val b:=by
  have h1:s*val b<1000000000 ^ (k+2):=by rw[Ju];exact RV s t _ _ H.o.1 H.o.2.1 j3
  rw[<-g0] at h1 ⊢;have:c5=0:=by
   apply Nat.eq_zero_of_not_pos;intro hp;have:1000000000 ^ (k+2)*1<=1000000000 ^ (k+2)*c5:=Jz _ hp;omega
  rw[this,Vz,Vt]
 have l9:Hid (500000000<=O.getD (k+1) 0):=by
  unfold Hid
  have h1:val O<1000000000 ^ (k+1)*(O.getD (k+1) 0+1):=by
   have h:=Oz O (k+1);rw[Jf (by omega)] at h;rw[h,Yi,Z7];have:=Gi O a6 (k+1);omega
  rw[c7] at h1;have:=RU s t _ _ _ _ e7 h1;have:=H.o.2.2.1;omega
 have b7:Hid (val O=s*val b/\Kx O/\O.length=k+2):=⟨c7,a6,d3⟩;have m7:Hid (Kv I w.heap.size N):=m6.o.keptB e5 E.o;have h2:=Hd i7;have l6:Hid (Up w I):=d1.o.trans (e5.mono (by have:=E.o;omega));have m9:Hid (DivAt a b s k m O N (List.replicate (m+1) 0) (m+1)):=by
  refine⟨V.o.2.2,V.o.2.1,by simp,fun x hx=>by rw[Yu hx];omega,O1,?_,?_⟩
  ·have e1:Ea (List.replicate (m+1) 0) (m+1)=0:=by unfold Ea;simp[val]
   rw[e1,Ui,Ui,Y3,Jf (by have:=V.o.2.2;omega)];exact V.o.1.symm
  rw[c7];refine XZ (1000000000 ^ (m+1)) (1000000000 ^ (k+1)) _ s (val a) (val b) ?_ ?_ ?_ H.o.1
  ·have h:=Ws N (m+1) (k+2) (by have:=V.o.2.2;omega);rw[Jf (by have:=V.o.2.2;omega),V.o.1] at h;omega
  ·have h:=G4 a d4;rw[hla] at h;rw[<-Nat.pow_add,show m+1+(k+1)=k+2+m by omega];exact h
  have h:=Xs b htb (by intro h;rw[h] at hlb;simp at hlb);rw[hlb,show k+2 - 1=k+1 by omega] at h;exact h
 clear d2 a6 j6 n2 g0 e5 e7 j3 d3 c7 i7;have Z:Hid (Y.heap.size<I.heap.size):=h2.o.lt
 go_wp2_with (at_make;refine wpList_make_full _ rfl _ _ 70 rfl I.heap.size 127 i0 (.int .u32 0) 1 underlying70 b5 g2 g3 .i64 .i64 _ _ (m+1) rfl rfl (by first|rfl|omega) (by first|rfl|omega) (by first|omega|(rw[g4];omega)) (by unfold maxLen;omega) O1 ?_)
 intro w6 d K
 first|rw[Ee] at d|rw[K7] at d
 have e0:Kv w6 I.heap.size (List.replicate (m+1) 0):=(Kt d).tail;have c6:Up I w6:=(Jj _ _).grown K O1 (fun k h=>by cases h);have b8:Hid (Kv w6 I.heap.size (List.replicate (m+1) 0)/\Kv w6 w.heap.size N/\Kv w6 Y.heap.size O/\Up w w6):=⟨e0,m7.o.kept c6,h2.o.kept c6,l6.o.trans (c6.mono (by have:=Z.o;have:=E.o;omega))⟩;have o0:Hid (I.heap.size<w6.heap.size):=e0.lt;clear d K e0 c6
 go_wp2
 go_loopw [10] (fun iv wr=>∃ (j:Nat) (L Q:List Nat),DivAt a b s k m O L Q j/\iv=.int .i64 ((j:Int) - 1)/\Kv wr w.heap.size L/\Kv wr Y.heap.size O/\Kv wr I.heap.size Q/\Up w wr) (fun iv _=>(intOf iv+1).toNat)
 case atStart=>exact⟨m+1,N,_,m9.o,O5 (by omega),b8.o.2.1,b8.o.2.2.1,b8.o.1,b8.o.2.2.2⟩
 obtain⟨j,L,Q,e4,rfl,hR,hD,hQ,hB⟩:=hrel;have F:=Hd e4;have D:Hid (Kv wr w.heap.size L/\Kv wr Y.heap.size O/\Kv wr I.heap.size Q/\Up w wr):=⟨hR,hD,hQ,hB⟩;have n3:=e4.le;clear hR hD hQ hB e4
 cases j with
 | zero=>
   clear n3;have hL:=F.o.len;have f8:(L.take (k+2)).length=k+2:=by rw[Jm];omega
   have HI:Hid (Kn w.heap.size wr (.slice (some ⟨w.heap.size,0,none⟩) (k+2) (k+2+m+1)) (L.take (k+2))):=by
    refine⟨_,k+2+m+1,by rw[f8],by omega,by unfold maxLen;omega,S2 L F.o.ok _,.inr ⟨w.heap.size,0,rfl,O1,D.o.1.lt,fun i hi=>?_⟩⟩;rw[Y3,D.o.1.cell i (by omega)];rw[Ji,Ji,List.getElem?_take_of_lt (by omega)]
   have h6:=Hd f8;clear hL f8
   go_wp2_with fail
   refine (Pf w.heap.size _ (L.take (k+2)) s _ HI.o (by have:=h6.o;omega) H.o.1 (by have:=H.o.2.2.2.2;omega)).mono ?_;rintro e w7 ⟨u,U,r,rfl,hU,k7,n4,k8,hr,e6⟩;have HU:=Hd hU;have h8:Hid (Kn w.heap.size w7 (.slice (some ⟨I.heap.size,0,none⟩) (m+1) (m+1)) Q):=by
    have h:=(D.o.2.2.1.kept e6).isL (B:=w.heap.size) (cap:=m+1) (by have:=Z.o;have:=E.o;omega) F.o.qok (by have:=F.o.qlen;omega) (by unfold maxLen;omega);rw[F.o.qlen] at h;exact h
   have HE:Hid (val a=val Q*val b+val U/\val U<val b/\Oq U/\U.length<=k+2):=by
    have e:=F.o.eq;have tp:=F.o.top;unfold Ea at e;rw[Y9,Nat.pow_zero,Z7,Y3,b7.o.1] at e;rw[Y9,b7.o.1] at tp;have h:=MT s (val a) (val b) (val Q) _ (val U) r H.o.1 e tp k8 hr;exact⟨h.1,h.2,k7,by have:=h6.o;omega⟩
   have l7:Hid (Up w w7):=D.o.2.2.2.trans (e6.mono D.o.2.2.2.size);have m8:Hid (w.heap.size<=wr.heap.size):=D.o.2.2.2.size;obtain⟨pu,cu,hu,_⟩:=hU;subst hu;clear k7 n4 k8 hr e6
   go_wp2_with fail
   refine (E6 w.heap.size _ Q _ h8.o).mono ?_;rintro e w8 ⟨v,rfl,hcut,rfl⟩;have HW:Hid (Kn w.heap.size w8 v (Ov Q)):=hcut _ _ h8.o;have HT:Hid (val (Ov Q)=val Q/\(Ov Q).length<=m+1):=⟨O9 Q,by have:=Kl Q;have:=F.o.qlen;omega⟩;obtain⟨pv,cv,hv,_⟩:=HW.o;subst hv;clear hcut
   go_wp2
   go_ret2
   exact⟨_,_,Ov Q,U,rfl,HW.o,HU.o.mono m8.o,O8 _,HE.o.2.2.1,HT.o.2,HE.o.2.2.2,by rw[HT.o.1];exact HE.o.1,HE.o.2.1,l7.o⟩
 | succ i=>
   go_wp2_with fail
   rw[show i+(k+2)+1 - i=k+3 by omega];refine (YZ w.heap.size i (k+2+m+1 - i) Y.heap.size (k+2) k L O wr D.o.1 F.o.ok b7.o.2.2 (by have:=F.o.len;omega) (by have:=F.o.len;omega) D.o.2.1 (by have:=E.o;omega) b7.o.2.1 l9.o F.o.window (by omega)).mono ?_;rintro e w7 ⟨q,L7,rfl,j0,i8,d6,d7,n5,j1,k5,c8⟩;have g7:Hid (DivAt a b s k m O L7 (Q.set i q) i):=F.o.step n5 i8 d6 d7 j1 k5;have d0:Kv w7 I.heap.size Q:=c8.rowT (by have:=Z.o;have:=E.o;omega) D.o.2.2.1;have b4:=d0.cell i (by have:=F.o.qlen;omega);have j7:=d0.frozen i;have J:Hid (Kv (w7.setCell ⟨I.heap.size,i,none⟩ (.int .u32 (q:Nat))) w.heap.size L7/\Kv (w7.setCell ⟨I.heap.size,i,none⟩ (.int .u32 (q:Nat))) Y.heap.size O/\Kv (w7.setCell ⟨I.heap.size,i,none⟩ (.int .u32 (q:Nat))) I.heap.size (Q.set i q)/\Up w (w7.setCell ⟨I.heap.size,i,none⟩ (.int .u32 (q:Nat)))):=by
    have l5:=Z.o;have l3:=E.o;refine⟨j0.other _ _ (by show I.heap.size≠w.heap.size;omega),(c8.rowT (by omega) D.o.2.1).other _ _ (by show I.heap.size≠Y.heap.size;omega),d0.set _ _ (by have:=F.o.qlen;omega),(D.o.2.2.2.trans c8.bl).setCell (by show w.heap.size<=I.heap.size;omega) _⟩
   clear j0 i8 d6 d7 j1 k5 c8 d0
   go_wp2
   go_roundw
   case rel=>exact⟨i,L7,Q.set i q,g7.o,by go_num,J.o.1,J.o.2.1,J.o.2.2.1,J.o.2.2.2⟩
   simp[intOf]
def MO (B:Nat)(w:World)(v u:Value)(a b Q U:List Nat):Prop:=
 (Kn B w v Q/\Kn B w u U)/\(Oq Q/\Oq U)/\(Q.length<=a.length/\U.length<=b.length+3)/\val a=val Q*val b+val U/\val U<val b
theorem BC (x y:Nat)(h:S3 x y<0):x<y:=by
 unfold S3 at h
 split at h
 ·assumption
 split at h<;>omega
theorem Rx (a b:List Nat)(ha:Kx a)(hb:Kx b)(ta:Oq a)(tb:Oq b)(hcm:En a b<0):val a<val b:=by
 rw[Gu a b ha hb ta tb] at hcm;exact BC _ _ hcm
theorem PA (a b:List Nat)(hcm:0<=En a b):b.length<=a.length:=by
 unfold En at hcm
 by_cases h3:a.length<b.length
 ·simp[h3] at hcm<;>omega
 omega
theorem OR (a b:List Nat)(hcm:En a b<0):a.length<=b.length:=by
 unfold En at hcm
 by_cases h3:b.length<a.length
 ·by_cases h4:a.length<b.length
  ·omega
  simp[h3,h4] at hcm<;>omega
 omega
theorem D6 (B:Nat)(va vb:Value)(a b:List Nat)(w:World)(hBw:B<=w.heap.size)(ha:Kn B w va a)(hb:Kn B w vb b)(hla:a.length<=100000)(hta:Oq a)(htb:Oq b)(hne:b≠[]) :
 Calls prog 170 #[va,vb] w fun e w'=>∃ v u Q U,e=.returned (.tuple #[v,u])/\MO B w' v u a b Q U/\Up w w':=by
 have HA:=Hd ha;have HB:=Hd hb;have G:Hid (Oq a/\Oq b/\b≠[]/\B<=w.heap.size):=⟨hta,htb,hne,hBw⟩;obtain⟨pa,ca,rfl,f8,b8,I,_⟩:=ha;obtain⟨pb,cb,rfl,f9,b9,J,_⟩:=hb;have Y:Hid (Kx a/\Kx b):=⟨I,J⟩;obtain⟨c,hc⟩:=O2 (En a b);have HC:=Hd hc;have H : -1<=c/\c<=1:=by rw[<-hc];exact Hs a b
 obtain⟨g6,g7⟩:=H;clear hc hta htb hne hBw I J b8 b9
 by_cases c7:c<0
 ·have V:Hid (MO B w (.slice none 0 0) (.slice pa a.length ca) a b [] a):=by
   have hv:=Rx a b Y.o.1 Y.o.2 G.o.1 G.o.2.1 (by rw[HC.o];exact c7);have hl:=OR a b (by rw[HC.o];exact c7);exact⟨⟨⟨none,0,rfl,O1,(by unfold maxLen;omega),(fun x hx=>by cases hx),.inl rfl⟩,HA.o⟩,⟨fun h=>absurd rfl h,G.o.1⟩,⟨J7 _,by omega⟩,by simp[val],hv⟩
  go_in
  go_wp2_with fail
  refine (E9 B _ _ a b _ HA.o HB.o).mono ?_;rintro e w1 ⟨rfl,j⟩;rw[HC.o];have d:=Hd j;clear j
  go_wp2
  go_ret2
  exact⟨_,_,[],a,rfl,⟨⟨V.o.1.1.bl d.o,V.o.1.2.bl d.o⟩,V.o.2⟩,d.o⟩
 have d9:Hid (b.length<=a.length):=PA a b (by rw[HC.o];omega)
 by_cases h1:b.length=1
 ·obtain⟨y,rfl⟩:∃ y,b=[y]:=by
   match b,h1 with
   | [y],_=>exact⟨y,rfl⟩
  have d4:=Cv [y] 0 rfl G.o.2.1;have g9:=Y.o.2 y (by simp);have e7:0<y:=by
   simp at d4;omega
  obtain⟨_,_,_,_,H⟩:=HB.o.cells;obtain⟨bb,ob,rfl,e1,c6⟩:=H 0 (by simp);have K:w.cell? ⟨bb,ob+0,none⟩=some (.int .u32 (y:Nat)):=c6;have d8:Hid (∀ W,Up w W->W.cell? ⟨bb,ob,none⟩=some (.int .u32 (y:Nat))):=fun W hW=>(hW.cell (p:=⟨bb,ob,none⟩) e1).trans K;clear c6 K H d4
  go_in
  go_wp2_with fail
  refine (E9 B _ _ a [y] _ HA.o HB.o).mono ?_;rintro e w1 ⟨rfl,j⟩;rw[HC.o];have d:=Hd j;have a6:=d8.o _ j;clear j
  go_wp2_with fail
  refine (Pf B _ a y _ (HA.o.bl d.o) hla e7 (by omega)).mono ?_;rintro e w2 ⟨v,q,r,rfl,hL,d1,O,D,hr,E⟩;have HL:Hid (Kn B w2 v q):=hL.mono (by have:=d.o.size;have:=G.o.2.2.2;omega);have HV:Hid (Oq q/\q.length<=a.length/\val a=val q*y+r/\r<y):=⟨d1,O,D,hr⟩;have F:=d.up E;obtain⟨pv,cv,hv,_⟩:=hL;subst hv;clear d1 O D E a6
  go_wp2_with fail
  refine (Q5 r _ (by omega)).mono ?_;rintro e w3 ⟨u,t,rfl,hu,d2,a7,e5,Z⟩;have V:Hid (MO B w3 (.slice pv q.length cv) u a [y] q t):=by
   refine⟨⟨HL.o.bl Z,hu.mono (by have:=F.o.size;have:=G.o.2.2.2;omega)⟩,⟨HV.o.1,d2⟩,⟨HV.o.2.1,by omega⟩,?_,?_⟩
   ·rw[a7];simp only[val];exact HV.o.2.2.1
   rw[a7];simp only[val];exact HV.o.2.2.2
  have d7:=F.up Z;obtain⟨pu,cu,e6,_⟩:=hu;subst e6;clear d2 a7 e5 Z
  go_wp2
  go_ret2
  exact⟨_,_,q,t,rfl,V.o,d7.o⟩
 have hp:b.length≠0:=fun h=>G.o.2.2.1 (Jo h);obtain⟨k,hk⟩:∃ k,b.length=k+2:=⟨b.length - 2,by omega⟩;obtain⟨m,hm⟩:∃ m,a.length=k+2+m:=⟨a.length - (k+2),by have:=d9.o;omega⟩;have HK:Hid (b.length=k+2/\a.length=k+2+m/\k+2+m<=100000):=⟨hk,hm,by omega⟩;have z1:((b.length:Int)==1)=false:=by rw[Jd];omega
 clear hk hm
 go_in
 go_wp2_with fail
 refine (E9 B _ _ a b _ HA.o HB.o).mono ?_;rintro e w1 ⟨rfl,j⟩;rw[HC.o];have d:=Hd j;clear j
 go_wp2_with fail
 refine (YY B (.slice pa a.length ca) (.slice pb b.length cb) a b k m w1 (HA.o.bl d.o) (HB.o.bl d.o) HK.o.1 HK.o.2.1 HK.o.2.2 G.o.2.1).mono ?_;rintro e w2 ⟨v,u,Q,U,rfl,hv,hu,c8,d0,e3,e4,D,T,E⟩;have V:Hid (MO B w2 v u a b Q U):=by
  have b7:B<=w1.heap.size:=by have:=d.o.size;have:=G.o.2.2.2;omega
  exact⟨⟨hv.mono b7,hu.mono b7⟩,⟨c8,d0⟩,⟨by have:=HK.o;omega,by have:=HK.o;omega⟩,D,T⟩
 have F:=d.up E;clear hv hu c8 d0 e3 e4 D T E
 go_wp2
 go_ret2
 exact⟨_,_,Q,U,rfl,V.o,F.o⟩
end Go.Proofs.YtjjgilacnocigaaGreatDoor.Q
