import Derived.Test.YtjjgilacnocigaaGreatDoorP37
set_option maxRecDepth 100000
set_option maxHeartbeats 8000000
namespace Go.Proofs.YtjjgilacnocigaaGreatDoor
open ChangeShapes WideShapes ChangeAt RowKit Proofs.Tryz
theorem DC (a b:Int)(c d:ByteArray)(w:World):(Instr.field 37 (.agg #[.int .i64 a,.int .i64 b,.string c,.string d]) 0).run prog w=.ok (.int .i64 a) w:=by kernel_rfl
theorem DF (a b:Int)(c d:ByteArray)(w:World):(Instr.field 37 (.agg #[.int .i64 a,.int .i64 b,.string c,.string d]) 2).run prog w=.ok (.string c) w:=by kernel_rfl
attribute [local go_sem] DC DF
def JD (g N k:Nat)(w:World)(e:Ending)(w':World):Prop:=∃ (s:ByteArray) (X Xi Xe:SI) (k':Nat),e=.returned (.string s)/\GoodS s.data.toList X Xi Xe/\s.size<=40/\k'<=k+10/\Q.Ne g N w' k'/\Q.Bar g w w'
theorem Ad (g N k:Nat)(w:World)(h:Q.Ne g N w k)(hk:k<=100000) :
 Calls prog 11 #[.pointer (some ⟨g,0,none⟩)] w fun e w'=>JD g N k w e w':=by
 have HC:=Hd h;have d2:=h.1;clear h
 go_in
 go_wp2
 go_loopw [3] (fun vn W=>∃ (n kk:Nat),vn=.int .i64 n/\n<=4/\kk<=k+2*n/\Hid (Q.Ne g N W kk)/\Hid (Q.Bar g w W)) (fun vn _=>4 - (intOf vn).toNat)
 case atStart=>exact⟨0,k,rfl,by omega,by omega,HC,Q.Bar.refl g w⟩
 obtain⟨n,kk,rfl,hn,d4,hc,hb⟩:=hrel
 by_cases d5:n<4
 ·have T:(n:Int)<4:=by omega
  go_wp2_with fail
  refine (A9 g N kk wr hc.o (by omega)).mono ?_;rintro e U ⟨s,k1,rfl,hs,d3,O,K⟩;have HS:=Hd hs;have F:=Hd O;have Y:Hid (Q.Bar g w U):=hb.o.trans K;clear hs O K
  go_wp2_with fail
  refine (Ei U).mono ?_;rintro e V ⟨rfl,D⟩;have d:Up U V:=by rw[D];exact Oo _ _
  have a8:Hid (Eu V (.slice (some ⟨U.heap.size,0,none⟩) 2 2) uw):=by unfold Hid;rw[D];exact Rk U
  have G:=Hd (F.o.bl (d.mono F.o.2.1));have Z:Hid (Q.Bar g w V):=Y.o.trans (Q.Bar.of d);have b6:=NU s HS.o;have a7:=Hd ((Zt.1 NV) s HS.o);clear D d
  go_wp2_with fail
  refine (Pw _ uw s V a8.o (by omega)).mono ?_;rintro e w3 ⟨rfl,j⟩;have H:=Hd (G.o.bl (j.mono G.o.2.1));have E:Hid (Q.Bar g w w3):=Z.o.trans (Q.Bar.of j);obtain⟨X,hX⟩:=O2 (Ks (Kr uw) s.data.toList);have HX:=Hd hX;rw[hX];unfold Hj;clear j hX
  by_cases I:X.kind=6
  ·have z6:(X.kind==6)=true:=by rw[Jw];exact I
   obtain⟨X',Xi,Xe,J⟩:=GE a7.o (by rw[HX.o];exact I);have HG:=Hd J;clear I J
   go_wp2
   go_ret
   exact⟨s,X',Xi,Xe,k1,rfl,HG.o,b6,by omega,H.o,E.o⟩
  have z6:(X.kind==6)=false:=by rw[Jd];exact I
  clear I
  go_wp2_with fail
  exact⟨⟨n+1,k1,by go_num,by omega,by omega,H,E⟩,by simp[intOf];omega⟩
 have T:¬ (n:Int)<4:=by omega
 obtain⟨X,Xi,Xe,J⟩:=DJ;have HG:=Hd J;clear J
 go_wp2
 go_ret
 exact⟨_,X,Xi,Xe,kk,rfl,HG.o,by decide,by omega,hc.o,hb.o⟩
theorem YC (b:Nat)(t:List UInt8)(X Xi Xe:SI)(a:Option Addr)(n cap:Nat)(w:World)(hG:GoodS t X Xi Xe)(ht:t.length<=100)(hu:Eu w (.slice (some ⟨b,0,none⟩) 2 2) uw)(hbw:b<w.heap.size)(hc:Q.Ir w a n cap) :
 Calls prog 7 #[.slice (some ⟨b,0,none⟩) 2 2,.string (Oy t),.slice a n cap] w fun e w'=>∃ u:ByteArray,e=.returned (.string u)/\u.size<=12010/\Up w w':=by
 obtain⟨G,d⟩:=O2 (w.alloc (.cells #[.slice a n cap,.int .i64 0,.int .u64 0] 34));have HW:=Hd d;have Z:Hid (Q.Ne w.heap.size (w.heap.size+1) G 0):=by unfold Hid;rw[<-d];exact Q.GY hc _
 have Y:Hid (Up w G):=by unfold Hid;rw[<-d];exact Oo _ _
 have HU:=Hd (hu.bl Y.o);have HG:=Hd hG;have I:b≠w.heap.size:=by omega
 have T:=Hd (In (g:=w.heap.size) HU.o I (t:=t) (by omega) hG.rx);have U:=Hd (In (g:=w.heap.size) HU.o I (t:=X.index) (by have:=hG.li;omega) hG.ri);clear d hu hc hG
 go_in
 go_upto_region 2 with fail
 rw[HW.o]
 go_wp2_with fail
 refine (T.o G (Q.Bar.refl _ _)).mono ?_;rintro e w1 ⟨rfl,j⟩;have F:=Hd (Z.o.bl (j.mono Z.o.2.1));have E:Hid (Q.Bar w.heap.size G w1):=Q.Bar.of j;unfold Hj;clear j
 go_wp2_with fail
 refine (U.o w1 E.o).mono ?_;rintro e w2 ⟨rfl,D⟩;have O:=Hd (F.o.bl (D.mono F.o.2.1));have J:Hid (Q.Bar w.heap.size G w2):=E.o.trans (Q.Bar.of D);clear D
 go_wp2_with fail
 refine (Qe _ _ 0 Xi w2 O.o (by omega) HG.o.wi).mono ?_;rintro e w3 ⟨u,k3,rfl,hu,b5,V,H⟩;have K:Hid (Up w w3):=Q.GO Y.o (J.o.trans H);clear V H
 go_wp2
 go_ret
 exact⟨u,rfl,hu,K.o⟩
end Go.Proofs.YtjjgilacnocigaaGreatDoor
