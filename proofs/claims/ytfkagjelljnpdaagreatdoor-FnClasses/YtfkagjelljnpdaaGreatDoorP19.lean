import Derived.Test.YtfkagjelljnpdaaGreatDoorP18
set_option maxRecDepth 100000
set_option maxHeartbeats 4000000
namespace Go.Proofs.YtfkagjelljnpdaaGreatDoor
open ChangeShapes WideShapes ChangeAt RowKit Proofs.Tryz
def Ot(r k:Int):Bool:=if r=10 then decide (k≠0)else if r=11 then(decide (k=2)||decide (k=3))else decide (k=r)
theorem Ae(kb sb gb n:Nat)(f:List UInt8->Option Nat)(g:List UInt8->Option SI)(r:Int)(hr:0<=r/\r<=255)(s:ByteArray)(w:World)(hs:s.size<=1048576)(hn:n<=1000000000)(hev:EV w)(hc3:w.cell? ⟨kb,3,none⟩=some (.map (some sb)))(hc6:w.cell? ⟨kb,6,none⟩=some (.map (some gb)))(hm:Gk w sb f)(hsb:sb<w.heap.size)(hk:KM w gb n g)(hok:VT f g) :
 Calls prog 124 #[.pointer (some ⟨kb,0,none⟩),.int .u8 r,.string s] w fun e w'=>∃g',e=.returned (.bool (Ot r (Ou (Oh f) s.data.toList).kind))/\KM w' gb (n+1) g'/\VT f g'/\Bar gb w w':=by
 have HC:=Hd (Fl kb sb gb n f g s w hs hn hev hc3 hc6 hm hsb hk hok);clear hev hc3 hc6 hm hk hok
 go_in
 go_wp2_with fail
 refine HC.o.mono ?_;rintro e w' ⟨g',rfl,Y,q,V⟩;have G:=Hd Y;have J:=Hd q;have E:=Hd V;clear Y q V;obtain⟨a1,a7⟩:=I1 (Oh f) s.data.toList;obtain⟨X,Z⟩:=O2 (Ou (Oh f) s.data.toList);rw[Z]at a1 a7 ⊢;have K:=Hd Z;clear Z HC;unfold Gu;have b1:=VO X w'
 by_cases h:r=10
 ·subst h
  by_cases O:X.kind=0
  ·have y0:=U4 O;have F:Hid (Ot 10 X.kind=false):=by unfold Hid Ot;rw[if_pos rfl];simp[O]
   clear O
   go_wp2
   go_ret
   rw[K.o];exact⟨g',Oz F.o.symm,G.o,J.o,E.o⟩
  have y0:=Un O;have F:Hid (Ot 10 X.kind=true):=by unfold Hid Ot;rw[if_pos rfl];simp[O]
  clear O
  go_wp2
  go_ret
  rw[K.o];exact⟨g',Oz F.o.symm,G.o,J.o,E.o⟩
 by_cases j:r=11
 ·subst j;have F:Hid (Ot 11 X.kind=(decide (X.kind=2)||decide (X.kind=3))):=by unfold Hid Ot;rw[if_neg (by decide),if_pos rfl]
  clear h
  by_cases k2:X.kind=2
  ·have y0:(X.kind==2)=true:=by simp[k2]
   have R:Hid (Ot 11 X.kind=true):=by unfold Hid;rw[F.o];simp[k2]
   clear k2 F
   go_wp2
   go_ret
   rw[K.o];exact⟨g',Oz R.o.symm,G.o,J.o,E.o⟩
  have y0:(X.kind==2)=false:=by simp[k2]
  by_cases k3:X.kind=3
  ·have y1:(X.kind==3)=true:=by simp[k3]
   have R:Hid (Ot 11 X.kind=true):=by unfold Hid;rw[F.o];simp[k3]
   clear k2 k3 F
   go_wp2
   go_ret
   rw[K.o];exact⟨g',Oz R.o.symm,G.o,J.o,E.o⟩
  have y1:(X.kind==3)=false:=by simp[k3]
  have R:Hid (Ot 11 X.kind=false):=by unfold Hid;rw[F.o];simp[k2,k3]
  clear k2 k3 F
  go_wp2
  go_ret
  rw[K.o];exact⟨g',Oz R.o.symm,G.o,J.o,E.o⟩
 have F:Hid (Ot r X.kind=decide (X.kind=r)):=by unfold Hid Ot;rw[if_neg h,if_neg j]
 have b3:(r==10)=false:=by simp[h]
 have b4:(r==11)=false:=by simp[j]
 clear h j
 go_wp2
 go_ret
 rw[K.o];exact⟨g',Oz (by rw[F.o];simp[Bool.beq_eq_decide_eq]),G.o,J.o,E.o⟩
def Gh(t:Tm):Bool:=(decide (t.op=11)||decide (t.op=12)||decide (t.op=24)||decide (t.text=[]))&&(decide (t.op=43)||decide (t.op=44)||decide (t.op=45)||decide (t.a=0))&&(decide (t.op=43)||decide (t.b=0))
def G6(t:Tm)(vk:Value):Value:=.agg #[.int .i64 t.op,.string (Oo t.sort),.string (Oo t.text),.int .i64 t.a,.int .i64 t.b,vk]
theorem MH(t:Tm)(vk:Value)(W:World):(Instr.field 38 (G6 t vk) 0).run prog W=.ok (.int .i64 t.op) W/\(Instr.field 38 (G6 t vk) 1).run prog W=.ok (.string (Oo t.sort)) W/\(Instr.field 38 (G6 t vk) 2).run prog W=.ok (.string (Oo t.text)) W/\(Instr.field 38 (G6 t vk) 3).run prog W=.ok (.int .i64 t.a) W/\(Instr.field 38 (G6 t vk) 4).run prog W=.ok (.int .i64 t.b) W/\(Instr.field 38 (G6 t vk) 5).run prog W=.ok vk W:=by
 unfold Instr.field G6
 go_simp
 exact⟨rfl,rfl,rfl,rfl,rfl,rfl⟩
theorem QP(o:Int):o=11∨o=12∨o=24∨o=43∨o=44∨o=45∨((o==11)=false/\(o==12)=false/\(o==24)=false/\(o==43)=false/\(o==44)=false/\(o==45)=false):=by
 simp only[Jc];omega
theorem BR(a:Int):a=0∨((a==0)=false/\Hid (a≠0)):=by
 by_cases h:a=0
 ·exact .inl h
 exact .inr ⟨by simp[h],h⟩
theorem BP(t:List UInt8):(((Oo t).toList==[])=true/\Hid (t=[]))∨(((Oo t).toList==[])=false/\Hid (t≠[])):=by
 rw[Jk,Ov]
 by_cases h:t=[]
 ·exact .inl ⟨by simp[h],h⟩
 exact .inr ⟨by simp[h],h⟩
theorem Ln(t:Tm)(vk:Value)(w:World):Calls prog 125 #[G6 t vk] w fun e w'=>e=.returned (.bool (Gh t))/\Up w w':=by
 obtain⟨o,so,tx,a,b,ks⟩:=t;obtain⟨h,-,j,q,E,-⟩:=MH ⟨o,so,tx,a,b,ks⟩ vk w;unfold G6 at h j q E ⊢;simp only at h j q E ⊢;have K:Hid (Gh ⟨o,so,tx,a,b,ks⟩=((decide (o=11)||decide (o=12)||decide (o=24)||decide (tx=[]))&&(decide (o=43)||decide (o=44)||decide (o=45)||decide (a=0))&&(decide (o=43)||decide (b=0)))):=rfl;have hb:Up w (w.alloc (.cells #[.int .i64 o,.string (Oo so),.string (Oo tx),.int .i64 a,.int .i64 b,vk] 38)):=Oy _ _;have J:=Hd hb;clear hb h j q E
 rcases QP o with rfl|rfl|rfl|rfl|rfl|rfl|⟨R,V,Y,Z,y5,y6⟩
 all_goals rcases BR a with rfl|⟨ya,za⟩
 all_goals rcases BR b with rfl|⟨yb,zb⟩
 all_goals rcases BP tx with⟨O,G⟩|⟨O,G⟩
 all_goals go_in
 all_goals go_wp2_with fail
 all_goals go_ret
 all_goals refine⟨Oz ?_,J.o⟩
 all_goals rw[K.o]
 all_goals have G:=G.o
 all_goals simp_all
def Nx(F:List Fn)(f2:List UInt8->Option Nat)(t:Tm):Bool:=match f2 t.text with
 | none=>false
 | some i=>match F[i]? with
   | none=>false
   | some x=>decide (x.args.length=t.kids.length)&&decide (x.sort=t.sort)
theorem GB{w:World}{b:Nat}{f:List UInt8->Option Nat}(h:Gk w b f)(s:ByteArray)(hs:s.size<=1048576):∃c:Int,(∀i,f s.data.toList=some i->c=(i:Nat))/\(Instr.lookup 56 (.map (some b)) (.string s) true).run prog w=.ok (.tuple #[.int .i64 c,.bool (f s.data.toList).isSome]) w:=by
 obtain⟨n,D,hn,j,G⟩:=h;have V:(zeroValue 3).run prog w=.ok (.int .i64 0) w:=rfl;obtain⟨v,Y,q,O⟩:=j.look_ok G2 underlying56 V (plainElem_int underlying3 (by decide)) (Eo s (by unfold maxLen;omega));obtain⟨c,rfl,K,R⟩:=plainElem_int_inv underlying3 O;refine⟨c,fun i hi=>?_,?_⟩
 ·have J:=(G s.data.toList).2 i hi;have E:=congrArg Prod.fst K;rw[J]at E;simp at E;exact E.symm
 rw[q,(G s.data.toList).1]
end Go.Proofs.YtfkagjelljnpdaaGreatDoor
