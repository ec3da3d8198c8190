import Derived.Test.YtphhhciffpkojaaGreatDoorP00
import Derived.Test.YtphhhciffpkojaaGreatDoorE0
import Derived.Lib.Builder
import Derived.Lib.AppendStr
import Derived.Lib.UnsafeStr
import Derived.Lib.Walk
import Derived.Laws.Externs
import Derived.Shelf.RegionOpenPlain
import Derived.Deep.RegionHeld3
import Derived.BigQuiet
import Derived.Deep.DeepCutAuto
set_option maxRecDepth 100000
set_option maxHeartbeats 4000000
set_option linter.all false
namespace Go.Proofs.YtphhhciffpkojaaGreatDoor
open ChangeShapes WideShapes ChangeAt RowKit Proofs.Tryz
variable {B b:Nat}{l:List UInt8}{p vf vs vt:Value}{w w' w'':World}
def yQ (o:Obj):Prop:=∀ cur fz,o≠.cells cur 5 fz
def Fr (b:Nat)(w w':World):Prop:=∀ (k:Nat) (o:Obj),k≠b->w.heap[k]? = some o->yQ o->w'.heap[k]? = some o
theorem Fr.refl (b:Nat)(w:World):Fr b w w:=fun _ _ _ h _=>h
theorem Fr.trans (h:Fr b w w')(h':Fr b w' w''):Fr b w w'':=fun k o h1 h2 h3=>h' k o h1 (h k o h1 h2 h3) h3
theorem Fr.of (h:Up w w'):Fr b w w':=fun k _ _ h2 _=>(h.block k (Jv.1 h2).1).trans h2
theorem Fr.set (h:Fr b w w')(j:Nat)(u:Value):Fr b w (w'.setCell ⟨b,j,none⟩ u):=fun k o h1 h2 h3=>(Jh _ ⟨b,j,none⟩ _ _ h1).trans (h k o h1 h2 h3)
theorem Fr.grown {n:Nat}{v:Value}{xs:List Value}(hr:w.ownsRow B 5 1 v n xs)(hg:w.grownBy w' v.ownBlock):Fr b w w':=fun k o h1 h2 h3=>by
 rw[hg.block k (Jv.1 h2).1 (fun e=>?_)]
 ·exact h2
 rcases hr.2 with⟨rfl,_⟩|⟨g,cap,d,rfl,_,j,_⟩
 ·cases e
 have h:k=g:=Option.some.inj e
 rw[h,j] at h2
 exact h3 _ _ (Option.some.inj h2).symm
structure Wt (B b:Nat)(vs vf vt:Value)(l:List UInt8)(p:Value)(w:World):Prop where
 ex:∃ v,w.heap[b]? = some (.cells #[vs,vf,vt,p,v] 109 (0,0))/\w.ownsRow B 5 1 v l.length (Lib.byteCells l)
 le:B<=b
 pt:p=.pointer none∨p=.pointer (some ⟨b,3,none⟩)
theorem Wt.not {v:Value}(h:w.heap[b]? = some (.cells #[vs,vf,vt,p,v] 109 (0,0)))(hr:w.ownsRow B 5 1 v l.length (Lib.byteCells l)):v.ownBlock≠some b:=by
 rcases hr.2 with⟨rfl,_⟩|⟨g,cap,j,rfl,_,d,_⟩
 ·exact fun e=>by cases e
 intro e;have E:g=b:=Option.some.inj e;rw[E,h] at d;injection d with d
 injection d with _ d
 exact absurd d (by decide)
theorem Wt.bl (h:Wt B b vs vf vt l p w)(hb:Up w w'):Wt B b vs vf vt l p w':=by
 obtain⟨v,d,j⟩:=h.ex;refine⟨⟨v,(hb.block b (Jv.1 d).1).trans d,j.kept (row:=none) ⟨hb.os,hb.tape,hb.output,hb.size,fun k hk _=>hb.block k hk⟩ (by cases v.ownBlock<;>simp)⟩,h.le,h.pt⟩
theorem yI:∃ j:TypeInfo,prog.info? 107=some j/\j.size=2:=by
 obtain⟨j,d,h⟩:=Option.map_eq_some_iff.1 (show (prog.info? 107).map (·.size)=some 2 by kernel_rfl);exact⟨j,d,h⟩
theorem yN:liesAt prog prog.depth 109 (5 / prog.cellsOf 109) 3 107 1=true:=by kernel_rfl
theorem oU (w:World)(h:Wt B b vs vf vt l p w) :
 Calls prog 151 #[.pointer (some ⟨b,3,none⟩)] w fun e w'=>e=.returned (.tuple #[])/\Wt B b vs vf vt l (.pointer (some ⟨b,3,none⟩)) w'/\Below B w w'/\Fr b w w':=by
 obtain⟨j,V,Y⟩:=yI;obtain⟨v,d,E⟩:=h.ex;have M:=h.le;have G:=Wt.not d E;have I:=Hd d;have J:=Hd E;have U:=Hd G
 rcases h.pt with rfl|rfl
 ·have c0:w.cell? ⟨b,3,none⟩=some (.pointer none):=by rw[Lib.cell_of_heap d];rfl
  have O:w.shape? b=some (109,5):=by simp[World.shape?,d]
  have a7:w.frozen? ⟨b,3,none⟩=false:=Lib.frozen_of_heap d 3;have K:=Hd O;clear d E G h O
  go_in
  go_wp2
  rw[Lib.run_to_unsafe w ⟨b,3,none⟩ underlying105 underlying199 V (by rw[Y];decide) K.o (show 3<5 by decide)];simp only[Result.andThen];rw[Oper.upon_value]
  go_wp2
  rw[run_callFunc_extern func173 (by kernel_rfl) (by kernel_rfl) (by kernel_rfl) (e:=Extern.AbiNoEscape.same) (by kernel_rfl)];rw[Lib.run_noEscape];simp only[Result.andThen];rw[Oper.upon_value]
  go_wp2
  rw[Lib.run_from_unsafe w ⟨b,3,none⟩ underlying199 underlying105 V K.o yN];simp only[Result.andThen];rw[Oper.upon_value]
  go_wp2
  go_end0
  have a8:b<w.heap.size:=(Jv.1 I.o).1;refine⟨rfl,⟨⟨v,?_,own_other' J.o (fun g hg=>Jh _ ⟨b,3,none⟩ _ _ (fun e=>U.o (by rw[hg,e])))⟩,M,.inr rfl⟩,(Je B w).setCell (p:=⟨b,3,none⟩) M _,(Fr.refl b w).set 3 _⟩;exact heap_setCell_same w b 3 _ _ _ I.o
 have c0:w.cell? ⟨b,3,none⟩=some (.pointer (some ⟨b,3,none⟩)):=by rw[Lib.cell_of_heap d];rfl
 have Z:=Hd h;clear d E G h
 go_in
 go_wp2
 rw[Lib.run_neq_ptr_same w _ underlying105 V]
 go_wp2
 go_end0
 exact⟨rfl,Z.o,Je B w,Fr.refl b w⟩
theorem info_u8:∃ i:TypeInfo,prog.info? 5=some i/\i.zero=some (.int .u8 0)/\i.size=1/\i.bytes=1:=info_parts (show (prog.info? 5).map (fun i=>(i.zero,i.size,i.bytes))=some (some (.int .u8 0),1,1) by kernel_rfl)
theorem oZ (s:List UInt8)(w:World)(h:Wt B b vs vf vt l p w)(hlen:l.length+s.length<=140737488355328)(hBw:B<=w.heap.size) :
 Calls prog 124 #[.pointer (some ⟨b,3,none⟩),.string (Oo s)] w fun e w'=>e=.returned (.tuple #[.int .i64 (s.length:Nat),.nilIface])/\Wt B b vs vf vt (l++s) (.pointer (some ⟨b,3,none⟩)) w'/\Below B w w'/\Fr b w w':=by
 obtain⟨i0,hi,d4,d5,d6⟩:=info_u8;have e3:(Oo s).size=s.length:=by show s.toArray.size=_;simp
 have H:=Hd h;clear h
 go_in
 go_wp2_with fail
 refine (oU _ H.o).mono ?_;rintro e w1 ⟨rfl,h1,M,Z⟩;obtain⟨v,J,j⟩:=h1.ex;have a7:=h1.le;have a8:=Wt.not J j;have c1:w1.cell? ⟨b,4,none⟩=some v:=by rw[Lib.cell_of_heap J];rfl
 have b3:=Hd M;have b6:=Hd Z;have U:=Hd J;have K:=Hd j;have Y:B<=w1.heap.size:=Yc hBw M.size;have d9:(Lib.byteCells l).length=l.length:=Lib.byteCells_length l;obtain⟨pv,cv,rfl⟩:∃ pv cv,v=.slice pv l.length cv:=by
  rcases j.2 with⟨rfl,h0⟩|⟨g,cap,V,rfl,_⟩
  ·exact⟨none,0,by rw[h0]⟩
  exact⟨_,_,rfl⟩
 clear M Z J h1 H
 go_wp2_with (at_builtin;refine Lib.wpList_append_own_string _ rfl _ _ 103 9 rfl B 5 i0 underlying103 underlying9 hi d4 d5 d6 _ _ _ rfl j (Oo s) rfl ?c3 ?c4 ?c5 ?_)
 case c3=>unfold maxLen;omega
 case c4=>omega
 case c5=>omega
 intro v' w2 E d _;have d3:b<w1.heap.size:=(Jv.1 U.o).1;have G:w2.heap[b]? = some (.cells #[vs,vf,vt,.pointer (some ⟨b,3,none⟩),.slice pv l.length cv] 109 (0,0)):=by
  rw[d.block b d3 (fun e=>a8 e.symm)];exact U.o
 have d1:w2.cell? ⟨b,4,none⟩=some (.slice pv l.length cv):=by rw[Lib.cell_of_heap G];rfl
 have f1:w2.frozen? ⟨b,4,none⟩=false:=Lib.frozen_of_heap G 4;have e1:Lib.byteCells l++Lib.strCells (Oo s)=Lib.byteCells (l++s):=by simp[Lib.byteCells,Lib.strCells,Oo]
 rw[e1,show l.length+s.length=(l++s).length by rw[Yn]] at E;have I:=Hd E;have b4:=Hd G;have b7:Hid (Fr b w w2):=b6.o.trans (Fr.grown K.o d);have b5:Hid (Below B w w2):=b3.o.trans ((Je B w1).grown d Y (fun k hk=>(K.o.lt k hk).1));obtain⟨T,hT⟩:=Oa (l++s);rw[hT] at I;obtain⟨p2,c2,rfl⟩:∃ p2 c2,v'=.slice p2 T.length c2:=by
  rcases I.o.2 with⟨rfl,h0⟩|⟨g,cap,V,rfl,_⟩
  ·exact⟨none,0,by rw[h0]⟩
  exact⟨_,_,rfl⟩
 have b8:Hid ((Value.slice p2 T.length c2).ownBlock≠some b):=by
  intro e
  rcases I.o.2 with⟨e2,_⟩|⟨g,cap,V,e2,_,O,_⟩
  ·rw[e2] at e;cases e
  rw[e2] at e;have e':g=b:=Option.some.inj e;rw[e',G] at O;injection O with O
  injection O with _ O
  exact absurd O (by decide)
 have b9:=Hd hT;clear j E d G a8 hT e1
 go_wp2
 go_ret2
 refine⟨rfl,?_,b5.o.setCell (p:=⟨b,4,none⟩) a7 _,b7.o.set 4 _⟩;rw[b9.o];refine⟨⟨.slice p2 T.length c2,?_,own_other' I.o (fun g hg=>Jh _ ⟨b,4,none⟩ _ _ (fun e=>b8.o (by rw[hg,e])))⟩,a7,.inr rfl⟩;exact heap_setCell_same w2 b 4 _ _ _ b4.o
theorem yV (w:World)(h:Wt B b vs vf vt l p w) :
 Calls prog 100 #[.pointer (some ⟨b,3,none⟩)] w fun e w'=>e=.returned (.int .i64 (l.length:Nat))/\w=w':=by
 obtain⟨v,j,d⟩:=h.ex;obtain⟨pv,cv,rfl⟩:∃ pv cv,v=.slice pv l.length cv:=by
  rcases d.2 with⟨rfl,G⟩|⟨g,cap,E,rfl,_⟩
  ·exact⟨none,0,by rw[G]⟩
  exact⟨_,_,rfl⟩
 have c1:w.cell? ⟨b,4,none⟩=some (.slice pv l.length cv):=by rw[Lib.cell_of_heap j];rfl
 clear j d h
 go_in
 go_wp2
 go_ret
 exact⟨rfl,rfl⟩
theorem TC (w:World)(h:Wt B b vs vf vt l p w) :
 Calls prog 71 #[.pointer (some ⟨b,0,none⟩)] w fun e w'=>e=.returned (.bool (decide (20000<l.length)))/\w=w':=by
 have H:=Hd h;obtain⟨v,d,-⟩:=h.ex;have j:Hid (decide ((20000:Int)<(l.length:Int))=decide (20000<l.length)):=by
  unfold Hid
  by_cases e:20000<l.length
  ·rw[Ja e,Ja (by omega)]
  rw[Jc e,Jc (by omega)]
 clear h d
 go_in
 go_wp2_with fail
 refine (yV _ H.o).mono ?_;rintro e w1 ⟨rfl,rfl⟩
 go_wp2
 go_ret
 exact⟨by rw[j.o];rfl,rfl⟩
theorem JC (w:World)(h:Wt B b vs vf vt l p w)(h0:l≠[]) :
 Calls prog 72 #[.pointer (some ⟨b,3,none⟩)] w fun e w'=>e=.returned (.string (Oo l))/\Below B w w':=by
 obtain⟨v,G,d⟩:=h.ex;have M:l.length≠0:=by simpa using h0
 obtain⟨g,cap,cur,rfl,I,O,Y,J,K,E⟩:∃ g cap cur,v=.slice (some ⟨g,0,none⟩) l.length cap/\B<=g/\w.heap[g]? = some (.cells cur 5 (0,0))/\l.length<=cap/\cap<=maxLen/\cur.size=cap*1/\cur.toList.take (l.length*1)=Lib.byteCells l:=by
  rcases d.2 with⟨_,hz⟩|⟨g,cap,cur,Z,r⟩
  ·exact absurd hz M
  exact⟨g,cap,cur,Z,r⟩
 have c1:w.drew.cell? ⟨b,4,none⟩=some (.slice (some ⟨g,0,none⟩) l.length cap):=by
  have:w.drew.heap[b]? = some (.cells #[vs,vf,vt,p,.slice (some ⟨g,0,none⟩) l.length cap] 109 (0,0)):=G;rw[Lib.cell_of_heap this];rfl
 have U:(Builtin.unsafeSliceData_ #[103] 136 #[.slice (some ⟨g,0,none⟩) l.length cap]).run prog w.drew=.ok (.pointer (some ⟨g,0,none⟩)) w.drew:=
  Lib.run_unsafeSliceData_row _ _ _ _ _ _ (by omega)
 have V:(Builtin.unsafeString_ #[136,3] 9 #[.pointer (some ⟨g,0,none⟩),.int .i64 l.length]).run prog w.drew=.ok (.string ⟨l.toArray⟩) (w.drew.freeze ⟨g,0,none⟩ l.length):=by
  refine Lib.run_unsafeString_row w.drew 136 3 9 5 underlying136 (by kernel_rfl) g cur.size (by have hg':w.drew.heap[g]? = some (.cells cur 5 (0,0)):=O;simp[World.shape?,hg']) l h0 (by omega) (by unfold maxLen at J;omega) ?_;intro j x hx;exact d.cells (g:=g) rfl j (.int .u8 x.toNat) (by simp[Lib.byteCells,hx])
 clear G d O E K
 go_in
 go_wp2
 go_region
 all_goals (go_wp2;go_ret;exact⟨rfl,Lib.below_freeze (Below.drew (Je B w)) (p:=⟨g,0,none⟩) I _⟩)
theorem oF (a:Array UInt8)(d:List UInt8):(⟨a⟩++Oo d:ByteArray)=Oo (a.toList++d):=by apply ByteArray.ext;simp[Oo]
theorem JV (d:List UInt8)(a:Array UInt8):(Oo d++⟨a⟩:ByteArray)=Oo (d++a.toList):=by apply ByteArray.ext;simp[Oo]
theorem yE (a b:List UInt8):(Oo a++Oo b:ByteArray)=Oo (a++b):=by apply ByteArray.ext;simp[Oo]
theorem oQ (s:List UInt8)(h:s.head? = some 45):Lib.hasPrefix s [45]=true/\Lib.trimPrefix s [45]=s.tail:=by
 cases s with
 | nil=>cases h
 | cons c t=>
   have hc:c=45:=Option.some.inj h;subst hc;exact⟨rfl,rfl⟩
theorem oR (s:List UInt8)(h:¬ s.head? = some 45):Lib.hasPrefix s [45]=false:=by
 cases s with
 | nil=>rfl
 | cons c t=>
   have hc:c≠45:=fun e=>h (by rw[e];rfl)
   show ((45==c)&&List.isPrefixOf [] t)=false
   rw[show ((45:UInt8)==c)=false by rw[Jb];exact fun e=>hc e.symm];rfl
theorem TO (s:List UInt8)(w:World)(hs:s.length<=1000000) :
 Calls prog 154 #[.string (Oo s)] w fun e w'=>e=.returned (.string (Oo (TE s)))/\w=w':=by
 have d:Hid (∀ W,Calls prog 163 #[.string (Oo s),.string ⟨#[45]⟩] W fun e w'=>e=.returned (.tuple #[.string ⟨(Lib.trimPrefix s [45]).toArray⟩,.bool (Lib.hasPrefix s [45])])/\w'=W):=fun W=>by
  have:=Tryz.strings_CutPrefix (Oo s) ⟨#[45]⟩ W;rw[Ou] at this;exact this
 by_cases h:s.head? = some 45
 ·obtain⟨G,I⟩:=oQ s h;have j:Hid (TE s=[40,45,32]++s.tail++[41]):=by unfold Hid TE;rw[if_pos h]
  rw[G,I] at d;obtain⟨t,E⟩:=Oa s.tail;have K:t.length<=1000000:=by rw[<-E,List.length_tail];omega
  have J:(Oo t).size=t.length:=H5 t;rw[E] at j d;clear h G I E
  go_in
  go_wp2_with fail
  refine (d.o _).mono ?_;rintro e w1 ⟨rfl,rfl⟩
  go_wp2
  go_ret
  refine⟨?_,rfl⟩;rw[j.o];exact congrArg (fun x=>Ending.returned (Value.string x)) (show (⟨#[40,45,32]⟩++Oo t++⟨#[41]⟩:ByteArray)=_ by rw[oF,JV])
 have j:Hid (TE s=s):=by unfold Hid TE;rw[if_neg h]
 rw[oR s h] at d;clear h
 go_in
 go_wp2_with fail
 refine (d.o _).mono ?_;rintro e w1 ⟨rfl,rfl⟩
 go_wp2
 go_ret
 exact⟨by rw[j.o];rfl,rfl⟩
theorem TI (s:List UInt8):(TE s).length<=s.length+4:=by
 unfold TE
 split
 ·simp
 omega
theorem TL (so tx:List UInt8)(w:World)(hs:tx.length<=100000) :
 Calls prog 126 #[.string (Oo so),.string (Oo tx)] w fun e w'=>e=.returned (.string (Oo (TK so tx)))/\Up w w':=by
 obtain⟨k,J⟩:=Oa (SC (Oo tx));have K:(Oo tx).size<=maxLen:=by rw[H5];unfold maxLen;omega
 have M:Hid (∀ W,Calls prog 155 #[.string (Oo tx),.string ⟨#[47]⟩] W fun e w'=>e=.returned (.tuple #[.string (Q.cutP (Oo tx) k),.string (Q.cutQ (Oo tx) k),.bool k.isSome])/\Up W w'):=fun W=>Q.FU _ k W K (by rw[<-J];exact SR _);clear K
 rcases Oj so U8 with⟨h,I⟩|⟨h,I⟩
 ·have j:Hid (TK so tx=TE tx):=by unfold Hid TK;rw[if_pos h]
  have z2:((Oo so).toList==[73,110,116])=true:=I;clear h I
  go_in
  go_wp2_with fail
  refine (TO tx _ (by omega)).mono ?_;rintro e w1 ⟨rfl,rfl⟩
  go_wp2
  go_ret
  exact⟨by rw[j.o];rfl,Je _ _⟩
 have z2:((Oo so).toList==[73,110,116])=false:=I;have hl:=TI (tx++[46,48])
 cases k with
 | none=>
   have j:Hid (TK so tx=TE (tx++[46,48])):=by unfold Hid TK;rw[if_neg h,J]
   have Y:Hid (Q.cutP (Oo tx) none=Oo tx/\Q.cutQ (Oo tx) none=Oo []):=⟨rfl,rfl⟩;rw[Y.o.1,Y.o.2] at M;have hz:=H5 tx;clear h I J
   go_in
   go_wp2_with fail
   refine (M.o _).mono ?_;rintro e w1 ⟨rfl,d⟩;have E:=Hd d;clear d
   go_wp2_with fail
   rw[JV];refine (TO (tx++[46,48]) _ (by simp;omega)).mono ?_;rintro e w2 ⟨rfl,rfl⟩
   go_wp2
   go_ret
   exact⟨by rw[j.o];rfl,E.o⟩
 | some i=>
   have j:Hid (TK so tx=[40,47,32]++TE (tx.take i++[46,48])++[32]++tx.drop (i+1)++[46,48,41]):=by unfold Hid TK;rw[if_neg h,J]
   have U:=Ax tx i;have V:=GD tx i;obtain⟨a,ha⟩:=Oa (tx.take i);obtain⟨b,hb⟩:=Oa (tx.drop (i+1));have Z:a.length<=100000:=by rw[<-ha,J4];omega
   have a7:b.length<=100000:=by rw[<-hb,Zf];omega
   rw[ha] at U j;rw[hb] at V j;rw[U,V] at M;have b3:=H5 a;have b4:=H5 b;have G:=TI (a++[46,48]);obtain⟨c,hc⟩:=Oa (TE (a++[46,48]));rw[hc] at j G;have b5:=H5 c;have a8:c.length<=200000:=by simp at G;omega
   have O:=Hd hc;clear h I J U V ha hb hc hl G
   go_in
   go_wp2_with fail
   refine (M.o _).mono ?_;rintro e w1 ⟨rfl,d⟩;have E:=Hd d;clear d
   go_wp2_with fail
   rw[JV];refine (TO (a++[46,48]) _ (by simp;omega)).mono ?_;rintro e w2 ⟨rfl,rfl⟩;rw[O.o]
   go_wp2
   go_ret
   refine⟨?_,E.o⟩;rw[j.o];exact congrArg (fun x=>Ending.returned (Value.string x)) (show (⟨#[40,47,32]⟩++Oo c++⟨#[32]⟩++Oo b++⟨#[46,48,41]⟩:ByteArray)=_ by apply ByteArray.ext;simp[Oo])
structure HeadOk (t:Tm):Prop where
 op1:1<=t.op
 op2:t.op<=47
 tx:t.text.length<=20000
 ab:t.op=43∨t.op=44∨t.op=45->0<=t.a/\t.a<64
 b:t.op=43->0<=t.b/\t.b<64
def OW (w:World):Prop:=∀ i,i<48->w.cell? ⟨0,i,none⟩=some (.string (Oo (JF.getD i [])))
theorem OW.bl (h:OW w)(hb:Up w w'):OW w':=fun i hi=>(hb.cell (p:=⟨0,i,none⟩) (J5 w _ (h i hi))).trans (h i hi)
theorem WU (a:Int)(h0:0<=a)(h1:a<64)(w:World):Calls prog 127 #[.int .i64 a] w fun e w'=>e=.returned (.string (Oo (Lib.decDigits a.toNat)))/\w'=w:=by
 have:=Tryz.strconv_Itoa_small a.toNat (by omega) w;rw[show ((a.toNat:Nat):Int)=a by omega] at this;exact this
theorem SA (n:Nat)(h:n<64):(Lib.decDigits n).length<=2:=by
 by_cases e:n<10
 ·rw[Lib.decDigits_one e];simp
 rw[Lib.decDigits_two e (by omega)];simp
theorem WV (t:Tm)(pk:Option Addr)(nk ck:Nat)(w:World)(h:HeadOk t)(ho:OW w) :
 Calls prog 98 #[.agg #[.int .i64 t.op,.string (Oo t.sort),.string (Oo t.text),.int .i64 t.a,.int .i64 t.b,.slice pk nk ck]] w fun e w'=>e=.returned (.string (Oo (SM t)))/\Up w w':=by
 obtain⟨op,so,tx,a,b,ks⟩:=t;obtain⟨h1,h2,h3,h4,h5⟩:=h;simp only at h1 h2 h3 h4 h5 ⊢;obtain⟨W0,Z⟩:=Oa (w.alloc (.cells #[.int .i64 op,.string (Oo so),.string (Oo tx),.int .i64 a,.int .i64 b,.slice pk nk ck] 57));have J:=Hd Z;have a8:Up w W0:=by rw[<-Z];exact Oz _ _
 have b3:Bx W0 w.heap.size [.int .i64 op,.string (Oo so),.string (Oo tx),.int .i64 a,.int .i64 b,.slice pk nk ck]:=by rw[<-Z];exact Oi w _ _
 have j:=Hd a8;have HO:=Hd (ho.bl a8);have HX:=Hd b3;have d1:=H5 tx;obtain⟨c0,c1,c2,c3,c4⟩:=b3.k5;clear Z a8 b3 ho
 by_cases K:op=11
 ·subst K;have E:Hid (SM ⟨11,so,tx,a,b,ks⟩=Kl 2 tx):=by
   unfold Hid SM;simp
  go_in
  go_upto_region 1 with fail
  rw[J.o]
  go_wp2_with fail
  refine (S9 (Oo tx) _ (by rw[d1];exact h3)).mono ?_;rintro e w1 ⟨rfl,rfl⟩;rw[Ou]
  go_wp2
  go_ret
  exact⟨by rw[E.o];rfl,j.o⟩
 have e0:(op==11)=false:=by rw[Jb];exact K
 by_cases M:op=12
 ·subst M;have E:Hid (SM ⟨12,so,tx,a,b,ks⟩=TK so tx):=by
   unfold Hid SM;simp
  go_in
  go_upto_region 1 with fail
  rw[J.o]
  go_wp2_with fail
  refine (TL so tx _ (by omega)).mono ?_;rintro e w1 ⟨rfl,b6⟩;have c8:=Hd (j.o.trans (b6.mono j.o.size));clear b6
  go_wp2
  go_ret
  exact⟨by rw[E.o];rfl,c8.o⟩
 have e1:(op==12)=false:=by rw[Jb];exact M
 by_cases O:op=24
 ·subst O;have E:Hid (SM ⟨24,so,tx,a,b,ks⟩=35::98::tx):=by
   unfold Hid SM;simp
  go_in
  go_upto_region 1 with fail
  rw[J.o]
  go_wp2
  go_ret
  exact⟨by rw[E.o];exact congrArg (fun x=>Ending.returned (Value.string x)) (show (⟨#[35,98]⟩++Oo tx:ByteArray)=_ by apply ByteArray.ext;simp[Oo]),j.o⟩
 have e2:(op==24)=false:=by rw[Jb];exact O
 by_cases U:op=43
 ·subst U;obtain⟨q1,q2⟩:=h4 (.inl rfl);obtain⟨q3,q4⟩:=h5 rfl;have G:Hid (∀ W,Calls prog 127 #[.int .i64 a] W fun e w'=>e=.returned (.string (Oo (Lib.decDigits a.toNat)))/\w'=W):=WU a q1 q2;have b5:Hid (∀ W,Calls prog 127 #[.int .i64 b] W fun e w'=>e=.returned (.string (Oo (Lib.decDigits b.toNat)))/\w'=W):=WU b q3 q4;have la:=SA a.toNat (by omega);have lb:=SA b.toNat (by omega);have E:Hid (SM ⟨43,so,tx,a,b,ks⟩=[40,95,32,101,120,116,114,97,99,116,32]++Lib.decDigits a.toNat++[32]++Lib.decDigits b.toNat++[41]):=by
   unfold Hid SM;simp
  obtain⟨da,I⟩:∃ d,Lib.decDigits a.toNat=d:=⟨_,rfl⟩;obtain⟨db,b7⟩:∃ d,Lib.decDigits b.toNat=d:=⟨_,rfl⟩;rw[I] at G la E;rw[b7] at b5 lb E;have za:=H5 da;have zb:=H5 db;clear I b7
  go_in
  go_upto_region 1 with fail
  rw[J.o]
  go_wp2
  go_quiet (first|(go_at_call 127;first|exact Calls.quiet_of_same (G.o _)|exact Calls.quiet_of_same (b5.o _)))
  go_wp2
  go_ret
  exact⟨by rw[E.o];exact congrArg (fun x=>Ending.returned (Value.string x)) (show (⟨#[40,95,32,101,120,116,114,97,99,116,32]⟩++Oo da++⟨#[32]⟩++Oo db++⟨#[41]⟩:ByteArray)=_ by apply ByteArray.ext;simp[Oo]),⟨j.o.os,j.o.tape,j.o.output,j.o.size,j.o.block⟩⟩
 have e3:(op==43)=false:=by rw[Jb];exact U
 by_cases V:op=44
 ·subst V;obtain⟨q1,q2⟩:=h4 (.inr (.inl rfl));have la:=SA a.toNat (by omega);have E:Hid (SM ⟨44,so,tx,a,b,ks⟩=[40,95,32,122,101,114,111,95,101,120,116,101,110,100,32]++Lib.decDigits a.toNat++[41]):=by
   unfold Hid SM;simp
  have G:Hid (∀ W,Calls prog 127 #[.int .i64 a] W fun e w'=>e=.returned (.string (Oo (Lib.decDigits a.toNat)))/\w'=W):=WU a q1 q2;obtain⟨da,I⟩:∃ d,Lib.decDigits a.toNat=d:=⟨_,rfl⟩;rw[I] at G la E;have za:=H5 da;clear I
  go_in
  go_upto_region 1 with fail
  rw[J.o]
  go_wp2_with fail
  refine (G.o _).mono ?_;rintro e w1 ⟨rfl,rfl⟩
  go_wp2
  go_ret
  exact⟨by rw[E.o];exact congrArg (fun x=>Ending.returned (Value.string x)) (show (⟨#[40,95,32,122,101,114,111,95,101,120,116,101,110,100,32]⟩++Oo da++⟨#[41]⟩:ByteArray)=_ by apply ByteArray.ext;simp[Oo]),j.o⟩
 have e4:(op==44)=false:=by rw[Jb];exact V
 by_cases Y:op=45
 ·subst Y;obtain⟨q1,q2⟩:=h4 (.inr (.inr rfl));have la:=SA a.toNat (by omega);have E:Hid (SM ⟨45,so,tx,a,b,ks⟩=[40,95,32,115,105,103,110,95,101,120,116,101,110,100,32]++Lib.decDigits a.toNat++[41]):=by
   unfold Hid SM;simp
  have G:Hid (∀ W,Calls prog 127 #[.int .i64 a] W fun e w'=>e=.returned (.string (Oo (Lib.decDigits a.toNat)))/\w'=W):=WU a q1 q2;obtain⟨da,I⟩:∃ d,Lib.decDigits a.toNat=d:=⟨_,rfl⟩;rw[I] at G la E;have za:=H5 da;clear I
  go_in
  go_upto_region 1 with fail
  rw[J.o]
  go_wp2_with fail
  refine (G.o _).mono ?_;rintro e w1 ⟨rfl,rfl⟩
  go_wp2
  go_ret
  exact⟨by rw[E.o];exact congrArg (fun x=>Ending.returned (Value.string x)) (show (⟨#[40,95,32,115,105,103,110,95,101,120,116,101,110,100,32]⟩++Oo da++⟨#[41]⟩:ByteArray)=_ by apply ByteArray.ext;simp[Oo]),j.o⟩
 have e5:(op==45)=false:=by rw[Jb];exact Y
 have E:Hid (SM ⟨op,so,tx,a,b,ks⟩=JF.getD op.toNat []):=by
  unfold Hid SM;simp only[if_neg K,if_neg M,if_neg O,if_neg U,if_neg V,if_neg Y]
 obtain⟨n,rfl⟩:∃ n:Nat,op=(n:Int):=⟨op.toNat,by omega⟩;have b8:n<48:=by omega
 have d0:=HO.o n b8;rw[Int.toNat_natCast] at E;clear K M O U V Y h4 h5
 go_in
 go_upto_region 1 with fail
 rw[J.o]
 go_wp2
 go_ret
 exact⟨by rw[E.o];rfl,j.o⟩
def Wx (B b:Nat)(vs vf vt:Value)(l:List UInt8)(w:World):Prop:=∃ p,Wt B b vs vf vt l p w
theorem Wx.bl (h:Wx B b vs vf vt l w)(hb:Up w w'):Wx B b vs vf vt l w':=by
 obtain⟨p,h⟩:=h;exact⟨p,h.bl hb⟩
structure Wrote (B b:Nat)(vs vf vt:Value)(w:World)(l:List UInt8)(w':World):Prop where
 wx:Wx B b vs vf vt l w'
 bel:Below B w w'
 fr:Fr b w w'
theorem Wrote.trans {l':List UInt8}(h:Wrote B b vs vf vt w l w')(h':Wrote B b vs vf vt w' l' w''):Wrote B b vs vf vt w l' w'':=⟨h'.wx,h.bel.trans h'.bel,h.fr.trans h'.fr⟩
theorem Wrote.down (h:Wrote B b vs vf vt w l w')(hb:Below w'.heap.size w' w'')(hBw:B<=w'.heap.size):Wrote B b vs vf vt w l w'':=⟨h.wx.bl hb,h.bel.trans (hb.mono hBw),h.fr.trans (Fr.of hb)⟩
def JD (L:List (List UInt8)):List Value:=L.map (fun x=>.string (Oo x))
theorem TG {g:Nat}(L:List (List UInt8))(w:World)(h:Wx B b vs vf vt l w)(hg:w.heap[g]? = some (.cells (JD L).toArray 9 (0,0)))(hgb:g≠b)(hBw:B<=w.heap.size)(hL:L.length<=3)(hlen:l.length+L.flatten.length<=10000000) :
 Calls prog 97 #[.pointer (some ⟨b,0,none⟩),.slice (some ⟨g,0,none⟩) L.length L.length] w fun e w'=>e=.returned (.tuple #[])/\Wrote B b vs vf vt w (l++L.flatten) w':=by
 have H:=Hd h;have HG:=Hd hg;clear h hg
 go_in
 go_wp2
 go_loopw [5,8] (fun _ iv wr=>∃ i:Nat,i<=L.length/\iv=.int .i64 (i:Nat)/\Wrote B b vs vf vt w (l++(L.take i).flatten) wr) (fun _ iv _=>L.length - (intOf iv).toNat)
 case atStart=>exact⟨0,Jr _,rfl,by simpa using H.o,Je _ _,Fr.refl _ _⟩
 rename World=>wa
 obtain⟨i,hi,rfl,Y⟩:=hrel;have E:=Hd Y;clear Y
 by_cases d:i<L.length
 ·have z1:decide ((i:Int)<(L.length:Int))=true:=Ja (by omega);have z2:decide (i<L.length)=true:=Ja d;have J:=E.o.fr g _ hgb HG.o (fun cur fz e=>by injection e with _ e;exact absurd e (by decide));have c0:wa.cell? ⟨g,i,none⟩=some (.string (Oo L[i])):=by
   rw[Lib.cell_of_heap J];simp[JD,d]
  have O:B<=wa.heap.size:=Yc hBw E.o.bel.size;obtain⟨s,U⟩:=Oa (L[i]);have j:(L.take (i+1)).flatten=(L.take i).flatten++s:=by
   rw[List.take_add_one,Jd d,U,List.flatten_append];simp
  have b5:(l++(L.take i).flatten).length+s.length<=10000000:=by
   have h1:L.flatten=(L.take (i+1)).flatten++(L.drop (i+1)).flatten:=by rw[<-List.flatten_append,Zi]
   rw[h1,j] at hlen;simp at hlen ⊢;omega
  rw[U] at c0;obtain⟨p,Z⟩:=E.o.wx;have HP:=Hd Z;have K:=Hd j;clear U J j Z
  go_wp2_with fail
  refine (oZ s _ HP.o (by omega) O).mono ?_;rintro e w2 ⟨rfl,V,G,I⟩;have M:Hid (Wrote B b vs vf vt w (l++(L.take (i+1)).flatten) w2):=by
   unfold Hid;rw[K.o,<-List.append_assoc];exact⟨⟨_,V⟩,E.o.bel.trans G,E.o.fr.trans I⟩
  clear V G I
  go_wp2_with fail
  refine⟨⟨i+1,by omega,by go_num,M.o⟩,by simp[intOf];omega⟩
 have z1:decide ((i:Int)<(L.length:Int))=false:=Jc (by omega);have z2:decide (i<L.length)=false:=Jc d;have HE:Hid ((L.take i).flatten=L.flatten):=by
  unfold Hid;rw[Jl (by omega)]
 go_wp2_with fail
 go_end0
 refine⟨rfl,?_⟩;have:=E.o;rw[HE.o] at this;exact this
def Ap (l l' s:List UInt8):Prop:=l'=l++s∨(20000<l'.length/\20000<(l++s).length)
theorem Ap.put {l' s:List UInt8}(h:Ap l l' s)(t:List UInt8):Ap l (l'++t) (s++t):=by
 rcases h with rfl|⟨j,d⟩
 ·exact .inl (by rw[List.append_assoc])
 refine .inr ⟨?_,?_⟩<;>simp at d ⊢<;>omega
theorem Ap.trans {l1 l2 s t:List UInt8}(h:Ap l l1 s)(h':Ap l1 l2 t):Ap l l2 (s++t):=by
 rcases h with rfl|⟨j,d⟩
 ·rcases h' with rfl|⟨h3,h4⟩
  ·exact .inl (by rw[List.append_assoc])
  exact .inr ⟨h3,by simp at h4 ⊢;omega⟩
 rcases h' with rfl|⟨h3,h4⟩
 ·refine .inr ⟨?_,?_⟩<;>simp at d ⊢<;>omega
 refine .inr ⟨h3,?_⟩;simp at d ⊢;omega
theorem Ap.skip (h:20000<l.length)(s:List UInt8):Ap l l s:=.inr ⟨h,by simp;omega⟩
theorem Ap.nil (l:List UInt8):Ap l l []:=.inl (by simp)
def jn (T:List Tm):List Int->List UInt8
 | []=>[]
 | x::xs=>SB T x.toNat++xs.flatMap (fun x=>32::SB T x.toNat)
theorem oN (T:List Tm):∀ (ks:List Int) (x:Int),jn T (ks++[x])=jn T ks++(if ks.length=0 then [] else [32])++SB T x.toNat
 | [],x=>by simp[jn]
 | y::ks,x=>by simp[jn]
theorem oG (T:List Tm)(ks:List Int)(i:Nat)(hi:i<ks.length):jn T (ks.take (i+1))=jn T (ks.take i)++(if i=0 then [] else [32])++SB T ks[i].toNat:=by
 rw[List.take_add_one,Jd hi];have:=oN T (ks.take i) ks[i];rw[J4,Zo (by omega)] at this;exact this
theorem oE (T:List Tm)(ks:List Int)(h:ks≠[]):[32]++jn T ks=ks.flatMap (fun x=>32::SB T x.toNat):=by
 cases ks with
 | nil=>exact absurd rfl h
 | cons x ks=>simp[jn]
structure TmsOk (T:List Tm):Prop where
 desc:JL T
 head:∀ i,i<T.length->HeadOk (Ke T i)
 kids:∀ i,i<T.length->(Ke T i).kids.length<=50
 hl:∀ i,i<T.length->(SM (Ke T i)).length<=20100
def JM (B b:Nat)(vs vf vt:Value)(T:List Tm)(id:Nat)(l:List UInt8)(W:World)(e:Ending)(w':World):Prop:=e=.returned (.tuple #[])/\∃ l',Ap l l' (SB T id)/\l'.length<=max l.length (50000+100*(id+1))/\Wrote B b vs vf vt W l' w'
theorem ST (W:World)(o:Obj):(W.alloc o).heap[W.heap.size]? = some o:=Vg
theorem Wx.lt (h:Wx B b vs vf vt l w):b<w.heap.size/\B<=b:=by
 obtain⟨p,h⟩:=h;obtain⟨v,d,-⟩:=h.ex;exact⟨(Jv.1 d).1,h.le⟩
theorem TT {m:Nat}{vk:Value}{T:List Tm}{ks:List Int}{wa:World}(hwa:wa.heap.size=B)(IH:∀ id,id<m->∀ l W,Wx B b vs vf vt l W->Below B wa W->l.length<=1000000->Calls prog 70 #[.pointer (some ⟨b,0,none⟩),.int .i64 (id:Nat)] W (JM B b vs vf vt T id l W))
 (hk:∀ x∈ks,0<=x/\x.toNat<m) (hk5:ks.length<=50) (hm:m<=3000) (hv:Kg wa vk ks) (l:List UInt8) (W:World) (h:Wx B b vs vf vt l W) (hW:Below B wa W) (hl:l.length<=45000) :
 Calls prog 99 #[.pointer (some ⟨b,0,none⟩),vk] W fun e w'=>e=.returned (.tuple #[])/\∃ l',Ap l l' (jn T ks)/\l'.length<=50000+100*m+ks.length/\Wrote B b vs vf vt W l' w':=by
 have c6:=Hd IH;have HK:=Hd hk;have HV:=Hd hv;have H:=Hd h;have HW:=Hd hW;obtain⟨pk,ck,rfl,e8,e7,-⟩:=hv;clear IH hk h hW
 go_in
 go_wp2
 go_loopw [4,5,8] (fun _ _ iv wr=>∃ (i:Nat) (l':List UInt8),i<=ks.length/\iv=.int .i64 (i:Nat)/\Ap l l' (jn T (ks.take i))/\l'.length<=50000+100*m+i/\Wrote B b vs vf vt W l' wr) (fun _ _ iv _=>ks.length - (intOf iv).toNat)
 case atStart=>exact⟨0,l,Jr _,rfl,Ap.nil l,by omega,H.o,Je _ _,Fr.refl _ _⟩
 rename World=>wr
 obtain⟨i,l',hi,rfl,hA,f5,hR⟩:=hrel;have HA:=Hd hA;have O:=Hd hR;clear hA hR
 by_cases d:i<ks.length
 ·have z1:decide ((i:Int)<(ks.length:Int))=true:=Ja (by omega);have z2:decide (i<ks.length)=true:=Ja d;have b3:Below B wa wr:=HW.o.trans O.o.bel;have b5:=HV.o.bl (by have h:=b3;rw[<-hwa] at h;exact h);obtain⟨bk,rfl,c0⟩:∃ bk,pk=some ⟨bk,0,none⟩/\wr.cell? ⟨bk,i,none⟩=some (.int .i64 ks[i]):=by
   obtain⟨p',c',e,-,-,h3⟩:=b5;simp only[Value.slice.injEq,true_and] at e;obtain⟨rfl,rfl⟩:=e
   rcases h3 with h3|⟨b',e,_,h5⟩
   ·rw[h3] at d;exact absurd d (J2 _)
   exact⟨b',e,h5 i d⟩
  obtain⟨d5,M⟩:=HK.o ks[i] (Jo d);have HJ:=Hd (oG T ks i d);obtain⟨x,hx⟩:∃ x:Nat,ks[i]=(x:Int):=⟨ks[i].toNat,by omega⟩;rw[hx] at c0 M;have d0:Hid (ks[i].toNat=x):=by unfold Hid;rw[hx];exact Int.toNat_natCast x
  rw[Int.toNat_natCast] at M;have Z:B<=wr.heap.size:=by have:=O.o.wx.lt;omega
  have e6:b<wr.heap.size:=O.o.wx.lt.1;clear b5 d5 hx
  go_upto_if 14 with fail
  go_cut [] (fun wx=>∃ l1,Ap l l1 (jn T (ks.take i)++(if i=0 then [] else [32]))/\l1.length<=50000+100*m+i+1/\Wrote B b vs vf vt W l1 wx)
  case first=>
   cases E:decide (0<i)
   ·have G:Hid (i=0):=by have:=of_decide_eq_false E;unfold Hid;omega
    clear E
    go_wp2
    go_meet
    exact⟨l',by rw[if_pos G.o,List.append_nil];exact HA.o,by omega,O.o⟩
   have G:Hid (¬ i=0):=by have:=of_decide_eq_true E;unfold Hid;omega
   obtain⟨Wl,j⟩:=Oa (wr.alloc (.cells #[.string ⟨#[32]⟩] 9));have K:Up wr Wl:=by rw[<-j];exact Oz _ _
   have b4:Wl.heap[wr.heap.size]? = some (.cells (JD [[32]]).toArray 9 (0,0)):=by rw[<-j];exact ST _ _
   have U:=Hd (O.o.down K Z);have d1:B<=Wl.heap.size:=Yc Z K.size;have c8:=Hd j;have b9:=Hd b4;clear E j K b4
   go_wp2_with fail
   rw[c8.o];refine (TG [[32]] _ U.o.wx b9.o (by omega) d1 (by decide) (by simp;omega)).mono ?_;rintro e w2 ⟨rfl,h2⟩;have J:=Hd (U.o.trans h2);clear h2
   go_wp2
   go_meet
   exact⟨_,by rw[if_neg G.o];exact HA.o.put [32],by simp;omega,J.o⟩
  obtain⟨l1,V,e9,a7⟩:=hcut
  rename World=>w1
  have b7:=Hd V;have I:=Hd a7;clear V a7
  go_wp2_with fail
  refine (c6.o x M l1 _ I.o.wx (HW.o.trans I.o.bel) (by omega)).mono ?_;rintro e w2 ⟨rfl,l2,Y,d2,a8⟩;have b8:Hid (Ap l l2 (jn T (ks.take (i+1)))):=by
   unfold Hid;rw[HJ.o,d0.o];exact b7.o.trans Y
  have J:=Hd (I.o.trans a8);have d3:l2.length<=50000+100*m+(i+1):=by omega
  clear Y a8 d2
  go_wp2_with fail
  refine⟨⟨i+1,l2,by omega,by go_num,b8.o,d3,J.o⟩,by simp[intOf];omega⟩
 have z1:decide ((i:Int)<(ks.length:Int))=false:=Jc (by omega);have z2:decide (i<ks.length)=false:=Jc d;have HE:Hid (ks.take i=ks):=Jl (by omega)
 go_wp2_with fail
 go_end0
 exact⟨rfl,l',by rw[HE.o] at HA;exact HA.o,by omega,O.o⟩
end Go.Proofs.YtphhhciffpkojaaGreatDoor
