import Derived.Test.YtjjgilacnocigaaGreatDoorP17
set_option maxRecDepth 100000
set_option maxHeartbeats 2000000
namespace Go.Proofs.YtjjgilacnocigaaGreatDoor
open ChangeShapes WideShapes ChangeAt RowKit Proofs.Tryz
variable {s:ByteArray}
theorem S6 {p:UInt8->Bool}{k:Nat}(h:k<s.size)(hp:(s.data.toList.take k).all p=true)(h1:p s[k]=false):Eg p s.data.toList=k:=by
 refine Wg (by rw[<-Lib.size_eq];omega) (fun j hj hji=>?_) (fun _=>h1);rw[Zt] at hp;refine hp _ ?_;rw[List.mem_take_iff_getElem];exact⟨j,by omega,rfl⟩
theorem VX {p:UInt8->Bool}{k:Nat}(h:¬ k<s.size)(hp:(s.data.toList.take k).all p=true):Eg p s.data.toList=s.size:=by
 rw[Ao (Lj h hp),Lib.size_eq]
theorem Ay (s:ByteArray)(w:World)(hs:s.size<=maxLen) :
 Calls prog 201 #[.func (.func 202) #[] #[],.string s] w fun e w'=>e=.returned (.int .i64 (Eg Nn s.data.toList:Nat))/\w'=w:=by
 unfold maxLen at hs
 go_in
 go_wp2
 go_loop [5] (fun i=>∃ k:Nat,k<=s.size/\i=.int .i64 k/\(s.data.toList.take k).all Nn=true) (fun i=>s.size - (intOf i).toNat)
 case atStart=>exact⟨0,J7 _,rfl,rfl⟩
 obtain⟨k,G,rfl,F⟩:=hrel;have j:=Hd F;clear F
 by_cases d:k<s.size
 ·by_cases D:Nn s[k]=true
  ·go_wp2_with (go_at_call 202;refine (Pb _ _).mono ?_;rintro e w' ⟨rfl,rfl⟩)
   go_round
   case rel=>exact⟨k+1,by omega,by go_num,G9 d j.o D⟩
   simp[intOf];omega
  have E:Nn s[k]=false:=by simpa using D
  clear D
  go_wp2_with (go_at_call 202;refine (Pb _ _).mono ?_;rintro e w' ⟨rfl,rfl⟩)
  go_ret
  exact⟨by rw[S6 d j.o E];rfl,rfl⟩
 go_wp2
 go_ret
 exact⟨by rw[VX d j.o];rfl,rfl⟩
theorem RZ (s:ByteArray)(w:World)(hs:s.size<=maxLen) :
 Calls prog 201 #[.func (.func 229) #[] #[],.string s] w fun e w'=>e=.returned (.int .i64 (Eg Id s.data.toList:Nat))/\w'=w:=by
 unfold maxLen at hs
 go_in
 go_wp2
 go_loop [5] (fun i=>∃ k:Nat,k<=s.size/\i=.int .i64 k/\(s.data.toList.take k).all Id=true) (fun i=>s.size - (intOf i).toNat)
 case atStart=>exact⟨0,J7 _,rfl,rfl⟩
 obtain⟨k,G,rfl,F⟩:=hrel;have j:=Hd F;clear F
 by_cases d:k<s.size
 ·by_cases D:Id s[k]=true
  ·go_wp2_with (go_at_call 229;refine (Rv _ _).mono ?_;rintro e w' ⟨rfl,rfl⟩)
   go_round
   case rel=>exact⟨k+1,by omega,by go_num,G9 d j.o D⟩
   simp[intOf];omega
  have E:Id s[k]=false:=by simpa using D
  clear D
  go_wp2_with (go_at_call 229;refine (Rv _ _).mono ?_;rintro e w' ⟨rfl,rfl⟩)
  go_ret
  exact⟨by rw[S6 d j.o E];rfl,rfl⟩
 go_wp2
 go_ret
 exact⟨by rw[VX d j.o];rfl,rfl⟩
theorem Ns (d:ByteArray)(h:0<d.size):d.data.toList.head? = some d[0]:=by
 obtain⟨⟨l⟩⟩:=d
 cases l with
 | nil=>simp[ByteArray.size] at h
 | cons a l=>rfl
theorem I1 (d:ByteArray)(h:0<d.size):d.toList.isEmpty=false:=by
 rw[Je];have:=Lib.size_eq d
 cases hl:d.data.toList with
 | nil=>exfalso;rw[hl] at this;simp only[Zo] at this;omega
 | cons _ _=>rfl
theorem OA {d:ByteArray}(h:d.size=0):d.data.toList=[]:=Jo (by rw[<-Lib.size_eq];exact h)
theorem R1 (d:ByteArray)(h:d.size=0):d.toList.isEmpty=true:=by
 rw[Je,OA h];rfl
theorem MH {d:ByteArray}(h:0<d.size):d.data.toList.isEmpty=false:=by rw[<-Je];exact I1 d h
theorem B8 (h:s.size=0):K6 s.data.toList=false:=by rw[OA h];rfl
theorem S4 (h:0<s.size)(h1:dg s[0]=true):K6 s.data.toList=false:=by
 unfold K6;rw[Ns s h];simp[h1]
theorem Lz (h:0<s.size)(h1:dg s[0]=false):K6 s.data.toList=s.data.toList.all Nn:=by
 unfold K6;rw[Ns s h,MH h];simp[h1]
theorem F8 (s:ByteArray)(w:World)(hs:s.size<=maxLen) :
 Calls prog 115 #[.string s] w fun e w'=>e=.returned (.bool (K6 s.data.toList))/\w'=w:=by
 unfold maxLen at hs
 by_cases D:s.size=0
 ·have F:Hid (K6 s.data.toList=false):=B8 D;have z:((s.size:Int)==0)=true:=by rw[Jw];omega
  clear D
  go_in
  go_wp2
  go_ret
  exact⟨O7 F.o.symm,rfl⟩
 have j:0<s.size:=by omega
 have z:((s.size:Int)==0)=false:=by rw[Jd];omega
 clear D
 by_cases E:dg s[0]=true
 ·have F:Hid (K6 s.data.toList=false):=S4 j E
  go_in
  go_wp2_with (go_at_call 107;refine (Q3 _ _).mono ?_;rintro e w' ⟨rfl,rfl⟩)
  go_ret
  exact⟨O7 F.o.symm,rfl⟩
 have G:dg s[0]=false:=by simpa using E
 have F:Hid (K6 s.data.toList=s.data.toList.all Nn):=Lz j G;clear E
 go_in
 go_wp2_with (go_at_call 107;refine (Q3 _ _).mono ?_;rintro e w' ⟨rfl,rfl⟩)
 go_loop [3] (fun i=>∃ k:Nat,k<=s.size/\i=.int .i64 k/\(s.data.toList.take k).all Nn=true) (fun i=>s.size - (intOf i).toNat)
 case atStart=>exact⟨0,J7 _,rfl,rfl⟩
 obtain⟨k,K,rfl,j⟩:=hrel;have J:=Hd j;clear j
 by_cases d:k<s.size
 ·by_cases H:Nn s[k]=true
  ·go_wp2_with (go_at_call 154;refine (Ps _ _).mono ?_;rintro e w' ⟨rfl,rfl⟩)
   go_round
   case rel=>exact⟨k+1,by omega,by go_num,G9 d J.o H⟩
   simp[intOf];omega
  have I:Nn s[k]=false:=by simpa using H
  clear H
  go_wp2_with (go_at_call 154;refine (Ps _ _).mono ?_;rintro e w' ⟨rfl,rfl⟩)
  go_ret
  exact⟨O7 (by rw[F.o,X5 d I]),rfl⟩
 go_wp2
 go_ret
 exact⟨O7 (by rw[F.o,Lj d J.o]),rfl⟩
def Oy (l:List UInt8):ByteArray:=⟨l.toArray⟩
theorem O4 (l:List UInt8):(Oy l).data.toList=l:=by simp[Oy]
theorem Nv (s:ByteArray):Oy s.data.toList=s:=by simp[Oy]
theorem NG (s:ByteArray):(⟨#[124]⟩++s++⟨#[124]⟩:ByteArray)=Oy (124::(s.data.toList++[124])):=by
 apply ByteArray.ext;apply Array.ext';simp[Oy]
theorem Pq (h:K6 s.data.toList=false):Ending.returned (.string (⟨#[124]⟩++s++⟨#[124]⟩))=.returned (.string (Oy (Kj 2 s.data.toList))):=by
 rw[NG];simp[Kj,h]
theorem Ag (h:K6 s.data.toList=true):Ending.returned (.string s)=.returned (.string (Oy (Kj 2 s.data.toList))):=by
 have:Kj 2 s.data.toList=s.data.toList:=by simp[Kj,h]
 rw[this,Nv]
theorem T9 (s:ByteArray)(w:World)(hs:s.size<=20000) :
 Calls prog 158 #[.string s] w fun e w'=>e=.returned (.string (Oy (Kj 2 s.data.toList)))/\w'=w:=by
 have hm:s.size<=maxLen:=by unfold maxLen;omega
 by_cases j:s.size=0
 ·have F:Hid (K6 s.data.toList=false):=B8 j;have z:=R1 s j;clear j
  go_in
  go_wp2
  go_ret
  exact⟨Pq F.o,rfl⟩
 have H:0<s.size:=by omega
 have z:=I1 s H;clear j
 by_cases E:dg s[0]=true
 ·have F:Hid (K6 s.data.toList=false):=S4 H E
  go_in
  go_wp2_with (go_at_call 200;refine (P9 _ _).mono ?_;rintro e w' ⟨rfl,rfl⟩)
  go_ret
  exact⟨Pq F.o,rfl⟩
 have G:dg s[0]=false:=by simpa using E
 have F:Hid (K6 s.data.toList=s.data.toList.all Nn):=Lz H G;clear E
 by_cases d:s.data.toList.all Nn=true
 ·have z2:((Eg Nn s.data.toList:Int)==(s.size:Int))=true:=by rw[Ao d,Lib.size_eq];simp
  have D:Hid (K6 s.data.toList=true):=F.o.trans d;clear d
  go_in
  go_wp2_with (first|(go_at_call 200;refine (P9 _ _).mono ?_;rintro e w' ⟨rfl,rfl⟩)|(go_at_call 201;refine (Ay _ _ hm).mono ?_;rintro e w' ⟨rfl,rfl⟩))
  go_ret
  exact⟨Ag D.o,rfl⟩
 have z2:((Eg Nn s.data.toList:Int)==(s.size:Int))=false:=by
  rw[Jd];intro e;exact d (VR.1 (by rw[<-Lib.size_eq];omega))
 have D:Hid (K6 s.data.toList=false):=F.o.trans (by simpa using d);clear d
 go_in
 go_wp2_with (first|(go_at_call 200;refine (P9 _ _).mono ?_;rintro e w' ⟨rfl,rfl⟩)|(go_at_call 201;refine (Ay _ _ hm).mono ?_;rintro e w' ⟨rfl,rfl⟩))
 go_ret
 exact⟨Pq D.o,rfl⟩
end Go.Proofs.YtjjgilacnocigaaGreatDoor
namespace Go.Proofs.YtjjgilacnocigaaGreatDoor
open ChangeShapes WideShapes ChangeAt RowKit
variable {W:World}{g:Nat}{l r:List Value}{v0 v1 v2 v3:Value}
theorem Oo (w:World)(o:Obj):Up w (w.alloc o):=(Jj _ _).alloc O1 o
theorem Ou {B:Nat}{a w:World}(h:Below B a w)(hB:B<=w.heap.size)(o:Obj):Below B a (w.alloc o):=h.alloc hB o
def Bx (W:World)(g:Nat)(l:List Value):Prop:=∃ ty,W.heap[g]? = some (.cells l.toArray ty (0,0))
theorem Bx.lt (h:Bx W g l):g<W.heap.size:=by
 obtain⟨t,h⟩:=h;exact (Yr.1 h).1
theorem Bx.cell (h:Bx W g l)(i:Nat):W.cell? ⟨g,i,none⟩=l[i]? := by
 obtain⟨t,h⟩:=h;simp[World.cell?,h]
theorem Bx.fz (h:Bx W g l)(i:Nat):W.frozen? ⟨g,i,none⟩=false:=by
 obtain⟨t,h⟩:=h;simp[World.frozen?,h]
theorem Bx.set (h:Bx W g l)(i:Nat)(v:Value):Bx (W.setCell ⟨g,i,none⟩ v) g (l.set i v):=by
 obtain⟨t,h⟩:=h;refine⟨t,?_⟩;obtain⟨d,j⟩:=Yr.1 h
 show (W.heap.modify g _)[g]? = _
 rw[Vv (by rw[U6];exact d),Vw,j];simp
theorem Bx.k2 (h:Bx W g (v0::v1::r)):W.cell? ⟨g,0,none⟩=some v0/\W.cell? ⟨g,1,none⟩=some v1:=⟨h.cell 0,h.cell 1⟩
theorem Bx.k3 (h:Bx W g (v0::v1::v2::r)):W.cell? ⟨g,0,none⟩=some v0/\W.cell? ⟨g,1,none⟩=some v1/\W.cell? ⟨g,2,none⟩=some v2:=⟨h.cell 0,h.cell 1,h.cell 2⟩
theorem Bx.k4 (h:Bx W g (v0::v1::v2::v3::r)):W.cell? ⟨g,0,none⟩=some v0/\W.cell? ⟨g,1,none⟩=some v1/\W.cell? ⟨g,2,none⟩=some v2/\W.cell? ⟨g,3,none⟩=some v3:=⟨h.cell 0,h.cell 1,h.cell 2,h.cell 3⟩
theorem Bx.k6 {v4 v5:Value}(h:Bx W g (v0::v1::v2::v3::v4::v5::r)):W.cell? ⟨g,0,none⟩=some v0/\W.cell? ⟨g,1,none⟩=some v1/\W.cell? ⟨g,2,none⟩=some v2/\W.cell? ⟨g,3,none⟩=some v3/\W.cell? ⟨g,4,none⟩=some v4/\W.cell? ⟨g,5,none⟩=some v5:=⟨h.cell 0,h.cell 1,h.cell 2,h.cell 3,h.cell 4,h.cell 5⟩
theorem Bx.f2 (h:Bx W g r):W.frozen? ⟨g,0,none⟩=false/\W.frozen? ⟨g,1,none⟩=false:=⟨h.fz 0,h.fz 1⟩
theorem Bx.f3 (h:Bx W g r):W.frozen? ⟨g,0,none⟩=false/\W.frozen? ⟨g,1,none⟩=false/\W.frozen? ⟨g,2,none⟩=false:=⟨h.fz 0,h.fz 1,h.fz 2⟩
theorem Bx.f4 (h:Bx W g r):W.frozen? ⟨g,0,none⟩=false/\W.frozen? ⟨g,1,none⟩=false/\W.frozen? ⟨g,2,none⟩=false/\W.frozen? ⟨g,3,none⟩=false:=⟨h.fz 0,h.fz 1,h.fz 2,h.fz 3⟩
theorem Bx.f6 (h:Bx W g r):W.frozen? ⟨g,0,none⟩=false/\W.frozen? ⟨g,1,none⟩=false/\W.frozen? ⟨g,2,none⟩=false/\W.frozen? ⟨g,3,none⟩=false/\W.frozen? ⟨g,4,none⟩=false/\W.frozen? ⟨g,5,none⟩=false:=⟨h.fz 0,h.fz 1,h.fz 2,h.fz 3,h.fz 4,h.fz 5⟩
theorem Bx.other (h:Bx W g l)(p:Addr)(hp:p.block≠g)(v:Value):Bx (W.setCell p v) g l:=by
 obtain⟨t,h⟩:=h;exact⟨t,(J1 W p v g (fun e=>hp e.symm)).trans h⟩
theorem Bx.bl {W':World}{N:Nat}(h:Bx W g l)(hN:g<N)(hb:Below N W W'):Bx W' g l:=by
 obtain⟨t,h⟩:=h;exact⟨t,(hb.block g hN).trans h⟩
theorem Bx.alloc (h:Bx W g l)(o:Obj):Bx (W.alloc o) g l:=h.bl h.lt (Oo W o)
theorem Bx.drew (h:Bx W g l):Bx W.drew g l:=h.bl h.lt (Jj _ W).drew
theorem Ox (W:World)(l:List Value)(ty:TypeId):Bx (W.alloc (.cells l.toArray ty)) W.heap.size l:=⟨ty,Array.getElem?_push_size⟩
theorem Bx.c2 (h:Bx W g (v0::v1::r)):W.cell? ⟨g,0,none⟩=some v0/\W.cell? ⟨g,1,none⟩=some v1:=⟨h.cell 0,h.cell 1⟩
theorem Bx.c4 (h:Bx W g (v0::v1::v2::v3::r)):W.cell? ⟨g,0,none⟩=some v0/\W.cell? ⟨g,1,none⟩=some v1/\W.cell? ⟨g,2,none⟩=some v2/\W.cell? ⟨g,3,none⟩=some v3:=⟨h.cell 0,h.cell 1,h.cell 2,h.cell 3⟩
end Go.Proofs.YtjjgilacnocigaaGreatDoor
namespace Go.Proofs.YtjjgilacnocigaaGreatDoor
open ChangeShapes WideShapes ChangeAt RowKit Proofs.Tryz
theorem Cm {s:ByteArray}(h:s.size=0∨60<s.size):Nx s.data.toList=false:=by
 unfold Nx;rw[<-Lib.size_eq]
 rcases h with h|h
 ·rw[Jp (by omega)];rfl
 rw[Jp (p:=s.size<=60) (by omega)];simp
theorem VJ {s:ByteArray}(h:0<s.size)(h1:s.size<=60):Nx s.data.toList=s.data.toList.all Id:=by
 unfold Nx;rw[<-Lib.size_eq,Jn h,Jn h1];rfl
theorem Nw (s:ByteArray)(w:World)(hs:s.size<=maxLen) :
 Calls prog 70 #[.string s] w fun e w'=>e=.returned (.bool (Nx s.data.toList))/\w'=w:=by
 unfold maxLen at hs
 by_cases I:s.size=0
 ·have F:Hid (Nx s.data.toList=false):=Cm (.inl I)
  go_in
  go_wp2
  go_ret
  exact⟨O7 F.o.symm,rfl⟩
 by_cases J:60<s.size
 ·have F:Hid (Nx s.data.toList=false):=Cm (.inr J)
  go_in
  go_wp2
  go_ret
  exact⟨O7 F.o.symm,rfl⟩
 have F:Hid (Nx s.data.toList=s.data.toList.all Id):=VJ (by omega) (by omega)
 go_in
 go_wp2
 go_loop [3] (fun i=>∃ k:Nat,k<=s.size/\i=.int .i64 k/\(s.data.toList.take k).all Id=true) (fun i=>s.size - (intOf i).toNat)
 case atStart=>exact⟨0,J7 _,rfl,rfl⟩
 obtain⟨k,K,rfl,G⟩:=hrel;have E:=Hd G;clear G
 by_cases d:k<s.size
 ·have D:Hid (Id s[k]=true↔((32<=s[k].toNat/\s[k].toNat<=126)/\s[k].toNat≠124)/\s[k].toNat≠92):=OE s[k]
  by_cases c1:s[k].toNat<32
  ·have j:Id s[k]=false:=by rw[Z4];intro h;have:=D.o.1 h;omega
   go_wp2
   go_ret
   exact⟨O7 (by rw[F.o,X5 d j]),rfl⟩
  by_cases c2:126<s[k].toNat
  ·have j:Id s[k]=false:=by rw[Z4];intro h;have:=D.o.1 h;omega
   go_wp2
   go_ret
   exact⟨O7 (by rw[F.o,X5 d j]),rfl⟩
  by_cases c3:s[k].toNat=124
  ·have j:Id s[k]=false:=by rw[Z4];intro h;have:=D.o.1 h;omega
   have z3:((s[k].toNat:Int)==124)=true:=by rw[Jw];omega
   clear c3
   go_wp2
   go_ret
   exact⟨O7 (by rw[F.o,X5 d j]),rfl⟩
  have z3:((s[k].toNat:Int)==124)=false:=by rw[Jd];omega
  by_cases c4:s[k].toNat=92
  ·have j:Id s[k]=false:=by rw[Z4];intro h;have:=D.o.1 h;omega
   have z4:((s[k].toNat:Int)==92)=true:=by rw[Jw];omega
   clear c4
   go_wp2
   go_ret
   exact⟨O7 (by rw[F.o,X5 d j]),rfl⟩
  have z4:((s[k].toNat:Int)==92)=false:=by rw[Jd];omega
  have H:Hid (Id s[k]=true):=D.o.2 ⟨⟨⟨by omega,by omega⟩,c3⟩,c4⟩
  go_wp2
  go_round
  case rel=>exact⟨k+1,by omega,by go_num,G9 d E.o H.o⟩
  simp[intOf];omega
 go_wp2
 go_ret
 exact⟨O7 (by rw[F.o,Lj d E.o]),rfl⟩
end Go.Proofs.YtjjgilacnocigaaGreatDoor
namespace Go.Proofs.YtjjgilacnocigaaGreatDoor
open ChangeShapes WideShapes ChangeAt RowKit
theorem TL {X s:ByteArray}(h:X≠s):(X.toList==s.toList)=false:=by
 rw[Jd];intro e;rw[Je,Je] at e;exact h (by rw[<-Nv X,e,Nv])
end Go.Proofs.YtjjgilacnocigaaGreatDoor
namespace Go.Proofs.YtjjgilacnocigaaGreatDoor
open ChangeShapes WideShapes ChangeAt RowKit Proofs.Tryz
variable {i k:Nat}{l:List UInt8}
def Eu (w:World)(v:Value)(L:List (List UInt8)):Prop:=
 ∃ p c,v=.slice p L.length c/\L.length<=c/\c<=maxLen/\(L=[]∨∃ b,p=some ⟨b,0,none⟩/\b<w.heap.size/\∀ i (h:i<L.length),w.cell? ⟨b,i,none⟩=some (.string (Oy L[i])))
theorem Eu.bl {w w':World}{v:Value}{L:List (List UInt8)}(h:Eu w v L)(hb:Up w w'):Eu w' v L:=by
 obtain⟨p,c,rfl,d,j,h3⟩:=h;refine⟨p,c,rfl,d,j,?_⟩
 rcases h3 with h3|⟨b,e,hl,D⟩
 ·exact .inl h3
 exact .inr ⟨b,e,Js hl hb.size,fun i hi=>(hb.cell (p:=⟨b,i,none⟩) hl).trans (D i hi)⟩
def Kr (L:List (List UInt8))(s:List UInt8):Bool:=decide (s∈L)
theorem Hf (v:Value)(L:List (List UInt8))(s:ByteArray)(w:World)(h:Eu w v L) :
 Calls prog 72 #[v,.string s] w fun e w'=>e=.returned (.bool (Kr L s.data.toList))/\w'=w:=by
 obtain⟨p,c,rfl,V,U,h3⟩:=h;have O:=Hd h3;unfold maxLen at U;clear h3
 go_in
 go_wp2
 go_loop [9] (fun i=>∃ k:Nat,k<=L.length/\i=.int .i64 k/\∀ j (h:j<L.length),j<k->L[j]≠s.data.toList) (fun i=>L.length - (intOf i).toNat)
 case atStart=>exact⟨0,J7 _,rfl,fun j _ hj=>absurd hj (Ve _)⟩
 obtain⟨k,Z,rfl,J⟩:=hrel;have H:=Hd J;clear J
 by_cases d:k<L.length
 ·rcases O.o with T|⟨b,rfl,Y,F⟩
  ·subst T;simp at d
  have I:=F k d;clear F
  by_cases E:L[k]=s.data.toList
  ·rw[E,Nv] at I;have G:Hid (Kr L s.data.toList=true):=by unfold Hid Kr;rw[J2,<-E];exact Yl d
   clear E
   go_wp2
   go_ret
   exact⟨O7 G.o.symm,rfl⟩
  have K:=Hd E;have D:Oy L[k]≠s:=fun e=>E (by rw[<-e,O4]);generalize Oy L[k]=X at I D;have zz:=TL D;clear E D
  go_wp2
  go_round
  case rel=>exact⟨k+1,by omega,by go_num,fun j hj hj2=>by
   rcases Uk.1 hj2 with h|rfl
   ·exact H.o j hj h
   exact K.o⟩
  simp[intOf];omega
 have G:Hid (Kr L s.data.toList=false):=by
  unfold Hid Kr;rw[Jy];intro hm;obtain⟨j,hj,e⟩:=Ym hm;exact H.o j hj (by omega) e
 go_wp2
 go_ret
 exact⟨O7 G.o.symm,rfl⟩
theorem Ni (s:ByteArray)(w:World)(hs:s.size<=1048576) :
 Calls prog 71 #[.string s] w fun e w'=>e=.returned (.string (Oy (Kj 2 s.data.toList)))/\w'=w:=by
 have hm:s.size<=maxLen:=by unfold maxLen;omega
 cases j:K6 s.data.toList
 ·have d:=Hd j;clear j
  go_in
  go_wp2_with (go_at_call 115;refine (F8 _ _ hm).mono ?_;rw[d.o];rintro e w' ⟨rfl,rfl⟩)
  go_ret
  exact⟨Pq d.o,rfl⟩
 have d:=Hd j;clear j
 go_in
 go_wp2_with (go_at_call 115;refine (F8 _ _ hm).mono ?_;rw[d.o];rintro e w' ⟨rfl,rfl⟩)
 go_ret
 exact⟨Ag d.o,rfl⟩
def Ct (l:List UInt8):Nat:=l.foldl (fun n c=>n*10+(c.toNat - 48)) 0
theorem RT (l:List UInt8)(c:UInt8):Ct (l++[c])=Ct l*10+(c.toNat - 48):=by simp[Ct,List.foldl_append]
theorem RW (s:ByteArray)(k:Nat)(h:k<s.size):Ct (s.data.toList.take (k+1))=Ct (s.data.toList.take k)*10+(s[k].toNat - 48):=by rw[Hb s k h,RT]
def Ik (l:List UInt8):Int:=if l.length=0∨6<l.length∨(1<l.length/\l.head? = some 48) then -1 else if l.all dg then (Ct l:Int) else -1
theorem Mb {s:ByteArray}(h:s.size=0∨6<s.size∨(1<s.size/\s.data.toList.head? = some 48)):Ik s.data.toList = -1:=by
 unfold Ik;rw[<-Lib.size_eq,if_pos h]
theorem MI {s:ByteArray}(h:¬ (s.size=0∨6<s.size∨(1<s.size/\s.data.toList.head? = some 48))):Ik s.data.toList=if s.data.toList.all dg then (Ct s.data.toList:Int) else -1:=by
 unfold Ik;rw[<-Lib.size_eq,if_neg h]
theorem Ev {a b:Int}(h:a=b):Ending.returned (.int .i64 a)=.returned (.int .i64 b):=by rw[h]
def VZ:Nat->Nat|0=>1|1=>10|2=>100|3=>1000|4=>10000|5=>100000|_=>1000000
theorem FK (k:Nat)(h:k<=6):VZ k<=1000000/\(k<6->VZ (k+1)=VZ k*10):=by
 have:k=0∨k=1∨k=2∨k=3∨k=4∨k=5∨k=6:=by omega
 rcases this with rfl|rfl|rfl|rfl|rfl|rfl|rfl<;>simp[VZ]
theorem Pv (s:ByteArray)(w:World)(hs:s.size<=maxLen) :
 Calls prog 63 #[.string s] w fun e w'=>e=.returned (.int .i64 (Ik s.data.toList))/\w'=w:=by
 unfold maxLen at hs
 by_cases h0:s.size=0
 ·have F:Hid (Ik s.data.toList = -1):=Mb (.inl h0)
  go_in
  go_wp2
  go_ret
  exact⟨Ev F.o.symm,rfl⟩
 by_cases h6:6<s.size
 ·have F:Hid (Ik s.data.toList = -1):=Mb (.inr (.inl h6))
  go_in
  go_wp2
  go_ret
  exact⟨Ev F.o.symm,rfl⟩
 have hp:0<s.size:=by omega
 have T:Hid (s.data.toList.head? = some s[0]):=Ns s hp;have I:∀ c:UInt8,c.toNat=48->c=48:=fun c h=>by
  have e:UInt8.ofNat c.toNat=c:=by simp
  rw[<-e,h];rfl
 by_cases j:1<s.size/\s[0].toNat=48
 ·have F:Hid (Ik s.data.toList = -1):=Mb (.inr (.inr ⟨j.1,by rw[T.o,I _ j.2]⟩));have z1:=j.1;have z2:((s[0].toNat:Int)==48)=true:=by rw[Jw];have:=j.2;omega
  clear j I
  go_in
  go_wp2
  go_ret
  exact⟨Ev F.o.symm,rfl⟩
 have F:Hid (Ik s.data.toList=if s.data.toList.all dg then (Ct s.data.toList:Int) else -1):=MI (by
  rintro (h|h|⟨h,V⟩)
  ·omega
  ·omega
  rw[T.o] at V;exact j ⟨h,by rw[Option.some.inj V];rfl⟩)
 have HZ:Hid (1<s.size->((s[0].toNat:Int)==48)=false):=fun h=>by rw[Jd];intro e;exact j ⟨h,by omega⟩
 clear j I
 go_in
 by_cases hq:1<s.size
 all_goals (try (have z:=HZ.o hq))
 all_goals (go_wp2_with fail)
 all_goals (go_loop [3,4] (fun nv i=>∃ k N:Nat,k<=s.size/\i=.int .i64 k/\nv=.int .i64 (N:Nat)/\N<VZ k/\N=Ct (s.data.toList.take k)/\(s.data.toList.take k).all dg=true) (fun _ i=>s.size - (intOf i).toNat))
 all_goals (try (case atStart=>exact⟨0,0,J7 _,rfl,rfl,by decide,rfl,rfl⟩))
 all_goals (
  obtain⟨k,N,hk,rfl,rfl,Y,hv,Z⟩:=hrel;have U:=Hd hv;have O:=Hd Z;clear hv Z
  by_cases d:k<s.size
  ·have D:=FK k (by omega)
   by_cases G:dg s[k]=true
   ·have b5:=(P5 s[k]).1 G;have E:=Hd G;have K:=Hd D;have b4:N<1000000:=by omega
    have J:=Hd Y;clear D Y;clear G
    go_wp2_with (go_at_call 107;refine (Q3 _ _).mono ?_;rw[E.o];rintro e w' ⟨rfl,rfl⟩)
    go_round
    case rel=>exact⟨k+1,N*10+(s[k].toNat - 48),by omega,by go_num,by go_num,by have:=J.o;rw[K.o.2 (by omega)];omega,by rw[RW s k d,<-U.o],G9 d O.o E.o⟩
    simp[intOf];omega
   have H:dg s[k]=false:=by simpa using G
   have E:=Hd H;clear G H D
   go_wp2_with (go_at_call 107;refine (Q3 _ _).mono ?_;rw[E.o];rintro e w' ⟨rfl,rfl⟩)
   go_ret
   exact⟨Ev (by rw[F.o,X5 d E.o];rfl),rfl⟩
  go_wp2
  go_ret
  exact⟨Ev (by rw[F.o,Lj d O.o,U.o,Jf (by rw[<-Lib.size_eq];omega)];rfl),rfl⟩)
def Nz (l:List UInt8)(i:Nat):Int:=match Es (l.drop i) with|none => -1|some k=>((i+k:Nat):Int)
theorem Rt {p:UInt8->Bool}(hik:i<=k)(hk:k<=l.length)(h:∀ j (hj:j<l.length),i<=j->j<k->p l[j]=true)(h1:∀ hk:k<l.length,p l[k]=false):Eg p (l.drop i)=k - i:=by
 refine Wg (by simp;omega) (fun j hj hj2=>?_) (fun hj=>?_)
 ·rw[Zm];exact h (i+j) (by simp at hj;omega) (by omega) (by omega)
 rw[Zm];have e:i+(k - i)=k:=by omega
 simp only[e];exact h1 (by simp at hj;omega)
theorem R9 (h:i<l.length):l.drop i=l[i]::l.drop (i+1):=Yw h
theorem EC (h:l.length<=i):Nz l i = -1:=by
 unfold Nz;rw[Z0 h];rfl
theorem Gx {c:UInt8}{n:Nat}(h:c.toNat=n):c=UInt8.ofNat n:=by rw[<-h];simp
def EH (c:UInt8):Bool:=c != 41&&c != 124
def EG (c:UInt8):Bool:=c != 124
def QE (c:UInt8):Bool:=c != 32&&c != 41
theorem B4 (h:i<l.length)(h0:l[i]=40)(hik:i<=k)(hk:k<l.length)(hall:∀ j (hj:j<l.length),i<=j->j<k->EH l[j]=true)(hs:EH l[k]=false):Nz l i=if l[k]=41 then ((k+1:Nat):Int) else -1:=by
 have E:=Rt (p:=fun c=>c != 41&&c != 124) hik (Uh hk) hall (fun _=>hs);unfold Nz;have e:=R9 h;rw[h0] at e;have D:(l.drop i).getD (k - i) 0=l[k]:=by rw[Ji,Vl,show i+(k - i)=k by omega,Jl hk];rfl
 have:Es (l.drop i)=if k - i<(l.drop i).length/\(l.drop i).getD (k - i) 0=41 then some (k - i+1) else none:=by rw[<-E,e];rfl
 rw[this,D];have hl:k - i<(l.drop i).length:=by simp;omega
 by_cases d:l[k]=41
 ·rw[if_pos ⟨hl,d⟩,if_pos d];simp only[];omega
 rw[if_neg (fun h=>d h.2),if_neg d]
theorem B5 (h:i<l.length)(h0:l[i]=40)(hall:∀ j (hj:j<l.length),i<=j->EH l[j]=true):Nz l i = -1:=by
 have d:=Rt (p:=fun c=>c != 41&&c != 124) (Uh h) O1 (fun j hj hi _=>hall j hj hi) (fun hk=>absurd hk (Nat.lt_irrefl _));unfold Nz;have e:=R9 h;rw[h0] at e;have:Es (l.drop i)=if l.length - i<(l.drop i).length/\(l.drop i).getD (l.length - i) 0=41 then some (l.length - i+1) else none:=by rw[<-d,e];rfl
 rw[this,if_neg (by simp)]
theorem QF (h:i<l.length)(h0:l[i]=124)(hik:i+1<=k)(hk:k<l.length)(hall:∀ j (hj:j<l.length),i+1<=j->j<k->EG l[j]=true)(hs:EG l[k]=false):Nz l i=((k+1:Nat):Int):=by
 have d:=Rt (p:=(· != 124)) hik (Uh hk) hall (fun _=>hs);unfold Nz;have e:=R9 h;rw[h0] at e;have:Es (l.drop i)=if k - (i+1)<(l.drop (i+1)).length then some (k - (i+1)+2) else none:=by rw[<-d,e];rfl
 rw[this,if_pos (by simp;omega)];simp only[];omega
theorem Aj (h:i<l.length)(h0:l[i]=124)(hall:∀ j (hj:j<l.length),i+1<=j->EG l[j]=true):Nz l i = -1:=by
 have d:=Rt (p:=(· != 124)) (show i+1<=l.length from h) O1 (fun j hj hi _=>hall j hj hi) (fun hk=>absurd hk (Nat.lt_irrefl _));unfold Nz;have e:=R9 h;rw[h0] at e;have:Es (l.drop i)=if l.length - (i+1)<(l.drop (i+1)).length then some (l.length - (i+1)+2) else none:=by rw[<-d,e];rfl
 rw[this,if_neg (by simp)]
theorem Dg (h:i<l.length)(h0:l[i]≠40)(h1:l[i]≠124)(hik:i<=k)(hk:k<=l.length)(hall:∀ j (hj:j<l.length),i<=j->j<k->QE l[j]=true)(hs:∀ hk:k<l.length,QE l[k]=false):Nz l i=((k:Nat):Int):=by
 have d:=Rt (p:=fun c=>c != 32&&c != 41) hik hk hall hs;unfold Nz;have e:=R9 h;have:Es (l.drop i)=some (k - i):=by
  rw[<-d,e];unfold Es
  split
  ·rename_i e';cases e'
  ·rename_i e';exact absurd (List.cons.inj e').1 h0
  ·rename_i e';exact absurd (List.cons.inj e').1 h1
  rfl
 rw[this];simp only[];omega
theorem Bw (c:UInt8):EH c=true↔c.toNat≠41/\c.toNat≠124:=by
 have k:=X4 (p:=fun c=>decide (EH c=true↔c.toNat≠41/\c.toNat≠124)) (by decide +kernel) c;exact of_decide_eq_true k
theorem ZB (c:UInt8):EG c=true↔c.toNat≠124:=by
 have k:=X4 (p:=fun c=>decide (EG c=true↔c.toNat≠124)) (by decide +kernel) c;exact of_decide_eq_true k
theorem Bj (c:UInt8):QE c=true↔c.toNat≠32/\c.toNat≠41:=by
 have k:=X4 (p:=fun c=>decide (QE c=true↔c.toNat≠32/\c.toNat≠41)) (by decide +kernel) c;exact of_decide_eq_true k
theorem X7 (c:UInt8)(n:Nat)(hn:n<256):c=UInt8.ofNat n↔c.toNat=n:=⟨fun e=>by rw[e];simp;omega,fun h=>Gx h⟩
theorem O6 (s:ByteArray):s.data.toList.length=s.size:=(Lib.size_eq s).symm
theorem ZM {p:UInt8->Bool}{c:UInt8}(h:¬ p c=true):p c=false:=by simpa using h
theorem Bc (s:ByteArray)(i:Nat)(w:World)(hs:s.size<=maxLen)(hi:i<=maxLen) :
 Calls prog 34 #[.string s,.int .i64 (i:Nat)] w fun e w'=>e=.returned (.int .i64 (Nz s.data.toList i))/\w'=w:=by
 unfold maxLen at hs hi
 by_cases b4:s.size<=i
 ·have F:Hid (Nz s.data.toList i = -1):=EC (by rw[O6];omega);have z:decide ((s.size:Int)<=(i:Int))=true:=dT (by omega)
  go_in
  go_wp2
  go_ret
  exact⟨Ev F.o.symm,rfl⟩
 have a8:i<s.size:=by omega
 have hl:i<s.data.toList.length:=by rw[O6];exact a8
 have T:=Hd hl;clear hl
 by_cases U:s[i].toNat=40
 ·have z0:((s[i].toNat:Int)==40)=true:=by rw[Jw];omega
  have H:Hid (s.data.toList[i]'T.o=40):=(X7 _ 40 (by decide)).2 U;clear U
  go_in
  go_wp2
  go_loop [5] (fun v=>∃ k:Nat,i<=k/\k<=s.size/\v=.int .i64 (k:Nat)/\∀ j (hj:j<s.data.toList.length),i<=j->j<k->EH s.data.toList[j]=true) (fun v=>s.size - (intOf v).toNat)
  case atStart=>exact⟨i,O1,by omega,rfl,fun j _ h1 h2=>by omega⟩
  obtain⟨k,G,hk,rfl,V⟩:=hrel;have K:=Hd V;clear V
  by_cases O:k<s.size
  ·have d:k<s.data.toList.length:=by rw[O6];exact O
   have D:=Hd d;clear d
   by_cases c1:s[k].toNat=41
   ·have z1:((s[k].toNat:Int)==41)=true:=by rw[Jw];omega
    have I:Hid (Nz s.data.toList i=((k+1:Nat):Int)):=by
     unfold Hid;have he:s.data.toList[k]'D.o=41:=(X7 _ 41 (by decide)).2 c1;rw[B4 T.o H.o G D.o K.o (ZM (fun h=>(Bw _).1 h |>.1 c1)),if_pos he]
    clear c1
    go_wp2
    go_ret
    exact⟨Ev (by rw[I.o];omega),rfl⟩
   have z1:((s[k].toNat:Int)==41)=false:=by rw[Jd];omega
   by_cases c2:s[k].toNat=124
   ·have z2:((s[k].toNat:Int)==124)=true:=by rw[Jw];omega
    have I:Hid (Nz s.data.toList i = -1):=by
     unfold Hid;have he:¬ s.data.toList[k]'D.o=41:=fun h=>c1 ((X7 _ 41 (by decide)).1 h);rw[B4 T.o H.o G D.o K.o (ZM (fun h=>(Bw _).1 h |>.2 c2)),if_neg he]
    clear c1 c2
    go_wp2
    go_ret
    exact⟨Ev I.o.symm,rfl⟩
   have z2:((s[k].toNat:Int)==124)=false:=by rw[Jd];omega
   have Y:Hid (EH (s.data.toList[k]'D.o)=true):=(Bw _).2 ⟨c1,c2⟩;clear c1 c2
   go_wp2
   go_round
   case rel=>exact⟨k+1,by omega,by omega,by go_num,fun j hj h1 h2=>by
    rcases Uk.1 h2 with h|rfl
    ·exact K.o j hj h1 h
    exact Y.o⟩
   simp[intOf];omega
  have I:Hid (Nz s.data.toList i = -1):=B5 T.o H.o (fun j hj h1=>K.o j hj h1 (by have:=O6 s;omega))
  go_wp2
  go_ret
  exact⟨Ev I.o.symm,rfl⟩
 have z0:((s[i].toNat:Int)==40)=false:=by rw[Jd];omega
 have H:Hid (s.data.toList[i]'T.o≠40):=fun h=>U ((X7 _ 40 (by decide)).1 h);clear U
 by_cases J:s[i].toNat=124
 ·have z1:((s[i].toNat:Int)==124)=true:=by rw[Jw];omega
  have E:Hid (s.data.toList[i]'T.o=124):=(X7 _ 124 (by decide)).2 J;clear J
  go_in
  go_wp2
  go_loop [6] (fun v=>∃ k:Nat,i+1<=k/\k<=s.size/\v=.int .i64 (k:Nat)/\∀ j (hj:j<s.data.toList.length),i+1<=j->j<k->EG s.data.toList[j]=true) (fun v=>s.size - (intOf v).toNat)
  case atStart=>exact⟨i+1,O1,by omega,by go_num,fun j _ h1 h2=>by omega⟩
  obtain⟨k,G,hk,rfl,V⟩:=hrel;have K:=Hd V;clear V
  by_cases O:k<s.size
  ·have d:k<s.data.toList.length:=by rw[O6];exact O
   have D:=Hd d;clear d
   by_cases c1:s[k].toNat=124
   ·have z2:((s[k].toNat:Int)==124)=true:=by rw[Jw];omega
    have I:Hid (Nz s.data.toList i=((k+1:Nat):Int)):=QF T.o E.o G D.o K.o (ZM (fun h=>(ZB _).1 h c1));clear c1
    go_wp2
    go_ret
    exact⟨Ev (by rw[I.o];omega),rfl⟩
   have z2:((s[k].toNat:Int)==124)=false:=by rw[Jd];omega
   have Y:Hid (EG (s.data.toList[k]'D.o)=true):=(ZB _).2 c1;clear c1
   go_wp2
   go_round
   case rel=>exact⟨k+1,by omega,by omega,by go_num,fun j hj h1 h2=>by
    rcases Uk.1 h2 with h|rfl
    ·exact K.o j hj h1 h
    exact Y.o⟩
   simp[intOf];omega
  have I:Hid (Nz s.data.toList i = -1):=Aj T.o E.o (fun j hj h1=>K.o j hj h1 (by have:=O6 s;omega))
  go_wp2
  go_ret
  exact⟨Ev I.o.symm,rfl⟩
 have z1:((s[i].toNat:Int)==124)=false:=by rw[Jd];omega
 have E:Hid (s.data.toList[i]'T.o≠124):=fun h=>J ((X7 _ 124 (by decide)).1 h);clear J
 go_in
 go_wp2
 go_loop [7] (fun v=>∃ k:Nat,i<=k/\k<=s.size/\v=.int .i64 (k:Nat)/\∀ j (hj:j<s.data.toList.length),i<=j->j<k->QE s.data.toList[j]=true) (fun v=>s.size - (intOf v).toNat)
 case atStart=>exact⟨i,O1,by omega,rfl,fun j _ h1 h2=>by omega⟩
 obtain⟨k,G,hk,rfl,V⟩:=hrel;have K:=Hd V;clear V
 by_cases O:k<s.size
 ·have d:k<s.data.toList.length:=by rw[O6];exact O
  have D:=Hd d;clear d
  by_cases c1:s[k].toNat=32
  ·have z2:((s[k].toNat:Int)==32)=true:=by rw[Jw];omega
   have I:Hid (Nz s.data.toList i=((k:Nat):Int)):=Dg T.o H.o E.o G (Uh D.o) K.o (fun _=>ZM (fun h=>(Bj _).1 h |>.1 c1));have zn:((s[k].toNat:Int) != 32)=false:=by simp[bne,z2]
   have zp:(s[k].toNat:Int)=32:=by omega
   clear c1
   go_wp2
   go_ret
   exact⟨Ev I.o.symm,rfl⟩
  have z2:((s[k].toNat:Int)==32)=false:=by rw[Jd];omega
  have zp:¬ (s[k].toNat:Int)=32:=by omega
  have zn:((s[k].toNat:Int) != 32)=true:=by simp[bne,z2]
  by_cases c2:s[k].toNat=41
  ·have z3:((s[k].toNat:Int)==41)=true:=by rw[Jw];omega
   have zm:((s[k].toNat:Int) != 41)=false:=by simp[bne,z3]
   have I:Hid (Nz s.data.toList i=((k:Nat):Int)):=Dg T.o H.o E.o G (Uh D.o) K.o (fun _=>ZM (fun h=>(Bj _).1 h |>.2 c2));have Z:Hid ((s[k].toNat:Int)=41):=by unfold Hid;omega
   clear c1 c2
   go_wp2_with fail
   all_goals first|(go_ret;exact⟨Ev I.o.symm,rfl⟩)|(exfalso;rename_i h2 _;simp only[bne_iff_ne,ne_eq] at h2;exact h2.2 Z.o)
  have z3:((s[k].toNat:Int)==41)=false:=by rw[Jd];omega
  have zm:((s[k].toNat:Int) != 41)=true:=by simp[bne,z3]
  have Y:Hid (QE (s.data.toList[k]'D.o)=true):=(Bj _).2 ⟨c1,c2⟩;have Z:Hid (¬ (s[k].toNat:Int)=32/\¬ (s[k].toNat:Int)=41):=⟨by omega,by omega⟩;clear c1 c2
  go_wp2_with fail
  rotate_left
  ·exfalso;rename_i h2 _;simp only[bne_eq_false_iff_eq] at h2;rcases h2 with h2|h2;exact Z.o.1 h2;exact Z.o.2 h2
  go_round
  case rel=>exact⟨k+1,by omega,by omega,by go_num,fun j hj h1 h2=>by
   rcases Uk.1 h2 with h|rfl
   ·exact K.o j hj h1 h
   exact Y.o⟩
  simp[intOf];omega
 have I:Hid (Nz s.data.toList i=((k:Nat):Int)):=Dg T.o H.o E.o G (by rw[O6];exact hk) K.o (fun h=>absurd h (by rw[O6];exact O))
 go_wp2
 go_ret
 exact⟨Ev I.o.symm,rfl⟩
end Go.Proofs.YtjjgilacnocigaaGreatDoor
namespace Go.Proofs.YtjjgilacnocigaaGreatDoor
open ChangeShapes WideShapes ChangeAt RowKit
variable {w:Nat}
def Hj (x:SI):Value:=.agg #[.int .i64 x.kind,.int .i64 (x.width:Nat),.string (Oy x.index),.string (Oy x.elem)]
theorem IF:∀ w:Fin 65,0<w.val->Ik (Al w.val)=(w.val:Int):=by decide +kernel
theorem Th:∀ w:Fin 65,0<w.val->N2 (Gz w.val)=w.val:=by decide +kernel
theorem GV:∀ (r:List UInt8)(n:Nat),n<=r.foldl (fun n c=>n*10+(c.toNat - 48)) n
 | [],n=>O1
 | c::r,n=>by
   have:=GV r (n*10+(c.toNat - 48))
   simp only[Vu]
   omega
theorem DN {d:List UInt8}(h:Ik d=(w:Int))(h0:0<w)(h1:w<=64):d=Al w:=by
 unfold Ik at h
 by_cases hc:d.length=0∨6<d.length∨(1<d.length/\d.head? = some 48)
 ·rw[if_pos hc] at h;omega
 rw[if_neg hc] at h
 by_cases j:¬ d.all dg=true
 ·rw[if_neg j] at h;omega
 have E:d.all dg=true:=Decidable.of_not_not j;rw[if_pos E] at h;have hv:Ct d=w:=by omega
 have hall:=Zt.1 E
 match d,hc,hall,hv with
 | [],hc,_,_=>exact absurd (Or.inl rfl) hc
 | [a],hc,hall,hv=>
   have ha:=(P5 a).1 (hall a (by simp));simp only[Ct,Vu,List.foldl_nil] at hv;unfold Al;rw[if_pos (by omega)]
   congr 1
   exact Gx (by omega)
 | [a,b],hc,hall,hv=>
   have ha:=(P5 a).1 (hall a (by simp));have F:=(P5 b).1 (hall b (by simp));have D:a.toNat≠48:=fun e=>hc (.inr (.inr ⟨by simp,by rw[Gx e];rfl⟩));simp only[Ct,Vu,List.foldl_nil] at hv;unfold Al;rw[if_neg (by omega)];rw[Gx (c:=a) (n:=48+w / 10) (by omega),Gx (c:=b) (n:=48+w % 10) (by omega)]
 | a::b::c::r,hc,hall,hv=>
   have ha:=(P5 a).1 (hall a (by simp));have D:a.toNat≠48:=fun e=>hc (.inr (.inr ⟨by simp,by rw[Gx e];rfl⟩));simp only[Ct,Vu] at hv;have:=GV r (((0*10+(a.toNat - 48))*10+(b.toNat - 48))*10+(c.toNat - 48));omega
def Qr (t:List UInt8):Prop:=11<t.length/\t.take 10=A7/\t.getLast? = some 41
def Ld (t:List UInt8):List UInt8:=(t.drop 10).dropLast
theorem C2 {t:List UInt8}(h:Qr t):t=A7++Ld t++[41]:=by
 obtain⟨E,D,h3⟩:=h;have d:t=A7++t.drop 10:=by rw[<-D,J9]
 have j:(t.drop 10).getLast? = some 41:=by rw[List.getLast?_drop,if_neg (by omega)];exact h3
 obtain⟨F,e⟩:=Vg.1 j;unfold Ld;rw[e,V3,Yo,<-e];exact d
theorem GJ:∀ w:Fin 65,0<w.val->11<(Gz w.val).length/\(Gz w.val).take 10=A7/\(Gz w.val).getLast? = some 41:=by decide +kernel
theorem LB {t:List UInt8}(h:¬ Qr t):N2 t=0:=by
 rcases Zx (N2 t) with d|d
 ·exact d
 obtain⟨w,D,j,rfl,_⟩:=Qg d;exact absurd (GJ ⟨w,j⟩ D) h
theorem AN {t:List UInt8}(h:Qr t)(hd:Ik (Ld t)=(w:Int))(h0:0<w)(h1:w<=64):N2 t=w:=by
 have e:=C2 h;rw[DN hd h0 h1] at e;rw[e];exact Th ⟨w,by omega⟩ h0
theorem AE {t:List UInt8}(h:Qr t)(hd:¬ (1<=Ik (Ld t)/\Ik (Ld t)<=64)):N2 t=0:=by
 rcases Zx (N2 t) with j|j
 ·exact j
 obtain⟨w,F,D,e,_⟩:=Qg j
 exfalso
 apply hd;have d:=C2 h;rw[e] at d;unfold Gz at d;have E:Al w=Ld t:=by
  have:=List.append_cancel_right d;rw[e];exact List.append_cancel_left this
 rw[<-E,IF ⟨w,D⟩ F];simp only[];omega
theorem QK {t:List UInt8}(h:t.head? = some 40):N6 t=none:=by
 obtain⟨r,rfl⟩:∃ r,t=40::r:=by
  cases t with
  | nil=>simp at h
  | cons c r=>simp at h;exact⟨r,by rw[h]⟩
 have d:K6 (40::r)=false:=by
  have:Nn 40=false:=by decide
  simp[K6,this]
 unfold N6;rw[d];rfl
theorem NT {t:List UInt8}(h:Qr t):t.head? = some 40:=by
 rw[C2 h];rfl
theorem B6 (own:List UInt8->Bool):O3 own He=⟨1,0,[],[]⟩/\O3 own Rj=⟨2,0,[],[]⟩/\O3 own Xv=⟨3,0,[],[]⟩:=by
 refine⟨by simp[O3],?_,?_⟩
 ·unfold O3;rw[if_neg (by decide),if_pos rfl]
 unfold O3;rw[if_neg (by decide),if_neg (by decide),if_pos rfl]
theorem QL (own:List UInt8->Bool){t:List UInt8}(h:Qr t)(hd:Ik (Ld t)=(w:Int))(h0:0<w)(h1:w<=64):O3 own t=⟨4,w,[],[]⟩:=by
 have d:=NT h;unfold O3;rw[if_neg (by rintro rfl;simp[He] at d),if_neg (by rintro rfl;simp[Rj] at d),if_neg (by rintro rfl;simp[Xv] at d),AN h hd h0 h1,if_pos h0]
theorem VY (own:List UInt8->Bool){t:List UInt8}(h:Qr t)(hd:¬ (1<=Ik (Ld t)/\Ik (Ld t)<=64)):O3 own t=SI.none:=by
 have d:=NT h;unfold O3;rw[if_neg (by rintro rfl;simp[He] at d),if_neg (by rintro rfl;simp[Rj] at d),if_neg (by rintro rfl;simp[Xv] at d),AE h hd,if_neg (by omega),QK d]
theorem QM (own:List UInt8->Bool){t:List UInt8}(h1:t≠He)(h2:t≠Rj)(h3:t≠Xv)(h:¬ Qr t):O3 own t=match N6 t with|some n=>if Nx n&&own n then ⟨5,0,[],[]⟩ else SI.none|none=>SI.none:=by
 unfold O3;rw[if_neg h1,if_neg h2,if_neg h3,LB h,if_neg (by omega)];rfl
end Go.Proofs.YtjjgilacnocigaaGreatDoor
