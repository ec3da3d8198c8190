import Derived.Test.YtdmdmgfjpomdbaaGreatDoorP20
set_option maxRecDepth 100000
set_option maxHeartbeats 4000000
namespace Go.Proofs.YtdmdmgfjpomdbaaGreatDoor
open ChangeShapes WideShapes ChangeAt RowKit Proofs.Tryz
def O7 (r k:Int):Bool:=if r=10 then decide (k≠0) else if r=11 then (decide (k=2)||decide (k=3)) else decide (k=r)
theorem Tx (kb sb gb n:Nat)(f:List UInt8->Option Nat)(g:List UInt8->Option SI)(r:Int)(hr:0<=r/\r<=255)(s:ByteArray)(w:World)(hs:s.size<=1048576)(hn:n<=1000000000)(hev:EV w)(hc3:w.cell? ⟨kb,3,none⟩=some (.map (some sb)))(hc6:w.cell? ⟨kb,6,none⟩=some (.map (some gb)))(hm:Hm w sb f)(hsb:sb<w.heap.size)(hk:KM w gb n g)(hok:ZM f g) :
 Calls prog 91 #[.pointer (some ⟨kb,0,none⟩),.int .u8 r,.string s] w fun e w'=>∃ g',e=.returned (.bool (O7 r (Ov (Oc f) s.data.toList).kind))/\KM w' gb (n+1) g'/\ZM f g'/\Bar gb w w':=by
 have HC:=Hd (Bu kb sb gb n f g s w hs hn hev hc3 hc6 hm hsb hk hok);clear hev hc3 hc6 hm hk hok
 go_in
 go_wp2_with fail
 refine HC.o.mono ?_;rintro e w' ⟨g',rfl,O,j,M⟩;have E:=Hd O;have G:=Hd j;have A:=Hd M;clear O j M;obtain⟨V,Y⟩:=Qp (Oc f) s.data.toList;obtain⟨X,U⟩:=Oa (Ov (Oc f) s.data.toList);rw[U] at V Y ⊢;have I:=Hd U;clear U HC;unfold Gw;have a8:=EO X w'
 by_cases d:r=10
 ·subst d
  by_cases J:X.kind=0
  ·have Z:=Nr J;have F:Hid (O7 10 X.kind=false):=by unfold Hid O7;rw[if_pos rfl];simp[J]
   clear J
   go_wp2
   go_ret
   rw[I.o];exact⟨g',Oy F.o.symm,E.o,G.o,A.o⟩
  have Z:=K3 J;have F:Hid (O7 10 X.kind=true):=by unfold Hid O7;rw[if_pos rfl];simp[J]
  clear J
  go_wp2
  go_ret
  rw[I.o];exact⟨g',Oy F.o.symm,E.o,G.o,A.o⟩
 by_cases h:r=11
 ·subst h;have F:Hid (O7 11 X.kind=(decide (X.kind=2)||decide (X.kind=3))):=by unfold Hid O7;rw[if_neg (by decide),if_pos rfl]
  clear d
  by_cases k2:X.kind=2
  ·have Z:(X.kind==2)=true:=by simp[k2]
   have K:Hid (O7 11 X.kind=true):=by unfold Hid;rw[F.o];simp[k2]
   clear k2 F
   go_wp2
   go_ret
   rw[I.o];exact⟨g',Oy K.o.symm,E.o,G.o,A.o⟩
  have Z:(X.kind==2)=false:=by simp[k2]
  by_cases k3:X.kind=3
  ·have y1:(X.kind==3)=true:=by simp[k3]
   have K:Hid (O7 11 X.kind=true):=by unfold Hid;rw[F.o];simp[k3]
   clear k2 k3 F
   go_wp2
   go_ret
   rw[I.o];exact⟨g',Oy K.o.symm,E.o,G.o,A.o⟩
  have y1:(X.kind==3)=false:=by simp[k3]
  have K:Hid (O7 11 X.kind=false):=by unfold Hid;rw[F.o];simp[k2,k3]
  clear k2 k3 F
  go_wp2
  go_ret
  rw[I.o];exact⟨g',Oy K.o.symm,E.o,G.o,A.o⟩
 have F:Hid (O7 r X.kind=decide (X.kind=r)):=by unfold Hid O7;rw[if_neg d,if_neg h]
 have b4:(r==10)=false:=by simp[d]
 have b5:(r==11)=false:=by simp[h]
 clear d h
 go_wp2
 go_ret
 rw[I.o];exact⟨g',Oy (by rw[F.o];simp[Bool.beq_eq_decide_eq]),E.o,G.o,A.o⟩
def Ht (t:Tm):Bool:=(decide (t.op=11)||decide (t.op=12)||decide (t.op=24)||decide (t.text=[]))&&(decide (t.op=43)||decide (t.op=44)||decide (t.op=45)||decide (t.a=0))&&(decide (t.op=43)||decide (t.b=0))
def Xz (t:Tm)(vk:Value):Value:=.agg #[.int .i64 t.op,.string (Oo t.sort),.string (Oo t.text),.int .i64 t.a,.int .i64 t.b,vk]
theorem AN (t:Tm)(vk:Value)(W:World):(Instr.field 55 (Xz t vk) 0).run prog W=.ok (.int .i64 t.op) W/\(Instr.field 55 (Xz t vk) 1).run prog W=.ok (.string (Oo t.sort)) W/\(Instr.field 55 (Xz t vk) 2).run prog W=.ok (.string (Oo t.text)) W/\(Instr.field 55 (Xz t vk) 3).run prog W=.ok (.int .i64 t.a) W/\(Instr.field 55 (Xz t vk) 4).run prog W=.ok (.int .i64 t.b) W/\(Instr.field 55 (Xz t vk) 5).run prog W=.ok vk W:=by
 unfold Instr.field Xz
 go_simp
 exact⟨rfl,rfl,rfl,rfl,rfl,rfl⟩
theorem DU (o:Int):o=11∨o=12∨o=24∨o=43∨o=44∨o=45∨((o==11)=false/\(o==12)=false/\(o==24)=false/\(o==43)=false/\(o==44)=false/\(o==45)=false):=by
 simp only[Jb];omega
theorem AT (a:Int):a=0∨((a==0)=false/\Hid (a≠0)):=by
 by_cases h:a=0
 ·exact .inl h
 exact .inr ⟨by simp[h],h⟩
theorem SY (t:List UInt8):(((Oo t).toList==[])=true/\Hid (t=[]))∨(((Oo t).toList==[])=false/\Hid (t≠[])):=by
 rw[Jk,Ou]
 by_cases h:t=[]
 ·exact .inl ⟨by simp[h],h⟩
 exact .inr ⟨by simp[h],h⟩
theorem B3 (t:Tm)(vk:Value)(w:World):Calls prog 92 #[Xz t vk] w fun e w'=>e=.returned (.bool (Ht t))/\Up w w':=by
 obtain⟨o,so,d,a,b,I⟩:=t;obtain⟨h,-,j,A,E,-⟩:=AN ⟨o,so,d,a,b,I⟩ vk w;unfold Xz at h j A E ⊢;simp only at h j A E ⊢;have K:Hid (Ht ⟨o,so,d,a,b,I⟩=((decide (o=11)||decide (o=12)||decide (o=24)||decide (d=[]))&&(decide (o=43)||decide (o=44)||decide (o=45)||decide (a=0))&&(decide (o=43)||decide (b=0)))):=rfl;have hb:Up w (w.alloc (.cells #[.int .i64 o,.string (Oo so),.string (Oo d),.int .i64 a,.int .i64 b,vk] 55)):=Oz _ _;have J:=Hd hb;clear hb h j A E
 rcases DU o with rfl|rfl|rfl|rfl|rfl|rfl|⟨O,U,V,Y,Z,y6⟩
 all_goals rcases AT a with rfl|⟨ya,za⟩
 all_goals rcases AT b with rfl|⟨yb,zb⟩
 all_goals rcases SY d with⟨M,G⟩|⟨M,G⟩
 all_goals go_in
 all_goals go_wp2_with fail
 all_goals go_ret
 all_goals refine⟨Oy ?_,J.o⟩
 all_goals rw[K.o]
 all_goals have G:=G.o
 all_goals simp_all
end Go.Proofs.YtdmdmgfjpomdbaaGreatDoor
