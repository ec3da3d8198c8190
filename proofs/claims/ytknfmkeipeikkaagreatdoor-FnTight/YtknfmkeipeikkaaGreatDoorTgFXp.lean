import Derived.Deep.AppendLies
import Derived.Test.YtknfmkeipeikkaaGreatDoorLrABp
import Derived.Test.YtknfmkeipeikkaaGreatDoorTLRp
import Derived.Test.YtknfmkeipeikkaaGreatDoorU4p
import Derived.Test.YtknfmkeipeikkaaGreatDoorPlusAp
import Derived.Test.YtknfmkeipeikkaaGreatDoorU1p
import Derived.Test.YtknfmkeipeikkaaGreatDoorU7p
import Derived.Ground.SlgnProg
import Derived.Shelf.SlicesE.Clone
set_option maxRecDepth 100000
set_option maxHeartbeats 20000000
namespace Go.Proofs.YtknfmkeipeikkaaGreatDoor.L
open Go.ChangeShapes Go.WideShapes Go.ChangeAt Go.RowKit
theorem numZ_kept {B:Nat} {W W':World} {z0:Int} {zn:Bool} {p:Option Addr} {l c:Nat} {x:Int} {m:Nat} (h:NumZ B W (.agg #[.int .i64 z0,.bool zn,.slice p l c]) x m) (hs:W.heap.size≤W'.heap.size) (hk:∀ a,p=some a→0<l→W'.heap[a.block]? = W.heap[a.block]?):NumZ B W' (.agg #[.int .i64 z0,.bool zn,.slice p l c]) x m:=by
 obtain ⟨neg,t,⟨u,h2,h3⟩,r⟩:=h; refine ⟨neg,t,⟨u,h2,?_⟩,r⟩
 rcases h3 with ⟨h3,v,e,y⟩|h3
 ·refine .inl ⟨h3,v,e,?_⟩; simp only [Value.agg.injEq,Array.mk.injEq,List.cons.injEq,Value.bool.injEq,and_true] at e; obtain ⟨-,-,rfl⟩:=e; obtain ⟨a,cap,e,E,k2,k3,k4⟩:=y; simp only [Value.slice.injEq] at e; obtain ⟨rfl,rfl,rfl⟩:=e; refine ⟨p,c,rfl,E,k2,k3,?_⟩
  rcases k4 with k4|⟨b,off,rfl,j,s,D⟩
  ·exact .inl k4
  exact .inr ⟨b,off,rfl,j,Nat.lt_of_lt_of_le s hs,fun i hi=>(World.cell?_of_block (a:=⟨b,off+i,none⟩) (hk ⟨b,off,none⟩ rfl (by omega))).trans (D i hi)⟩
 exact .inr h3
theorem numZ_from {B:Nat} {W:World} {z0:Int} {zn:Bool} {p:Option Addr} {l c:Nat} {x:Int} {m:Nat} (h:NumZ B W (.agg #[.int .i64 z0,.bool zn,.slice p l c]) x m):∀ a,p=some a→0<l→B≤a.block∧a.block<W.heap.size:=by
 obtain ⟨neg,t,⟨E,h2,h3⟩,r⟩:=h; intro a u hl
 rcases h3 with ⟨h3,v,e,y⟩|⟨_,h3⟩
 ·simp only [Value.agg.injEq,Array.mk.injEq,List.cons.injEq,Value.bool.injEq,and_true] at e; obtain ⟨-,-,rfl⟩:=e; obtain ⟨D,cap,e,I,k2,k3,k4⟩:=y; simp only [Value.slice.injEq] at e; obtain ⟨rfl,rfl,rfl⟩:=e
  rcases k4 with k4|⟨b,off,e,j,s,H⟩
  ·rw [k4] at hl; cases hl
  rw [u] at e; cases e; exact ⟨j,s⟩
 simp only [Value.agg.injEq,Array.mk.injEq,List.cons.injEq,Value.slice.injEq,and_true] at h3; obtain ⟨_,_,rfl,rfl,rfl⟩:=h3; cases u
structure Qz (B:Nat) (W:World) (cs:List Value) (x y:Int) (o:Option Nat):Prop where
 ex:∃ (p0:Int) (pn:Bool) (pa:Option Addr) (pl pc:Nat) (q0:Int) (qn:Bool) (qa:Option Addr) (ql qc:Nat),cs=[.int .i64 p0,.bool pn,.slice pa pl pc,.int .i64 q0,.bool qn,.slice qa ql qc]∧NumZ B W (.agg #[.int .i64 p0,.bool pn,.slice pa pl pc]) x 1000∧NumZ B W (.agg #[.int .i64 q0,.bool qn,.slice qa ql qc]) y 1000∧(∀ a,pa=some a→0<pl→o≠some a.block)∧(∀ a,qa=some a→0<ql→o≠some a.block)
theorem Qz.kept {B:Nat} {W W':World} {cs:List Value} {x y:Int} {o o':Option Nat} (h:Qz B W cs x y o) (hs:W.heap.size≤W'.heap.size) (hk:∀ b,B≤b→b<W.heap.size→o≠some b→W'.heap[b]? = W.heap[b]?) (ho:∀ b,B≤b→b<W.heap.size→o≠some b→o'≠some b):Qz B W' cs x y o':=by
 obtain ⟨m,D,s,pl,u,E,K,H,J,I,e,j,h2,h3,h4⟩:=h.ex; exact ⟨m,D,s,pl,u,E,K,H,J,I,e,numZ_kept j hs (fun a e1 e2=>hk _ (numZ_from j a e1 e2).1 (numZ_from j a e1 e2).2 (h3 a e1 e2)),numZ_kept h2 hs (fun a e1 e2=>hk _ (numZ_from h2 a e1 e2).1 (numZ_from h2 a e1 e2).2 (h4 a e1 e2)),fun a e1 e2=>ho _ (numZ_from j a e1 e2).1 (numZ_from j a e1 e2).2 (h3 a e1 e2),fun a e1 e2=>ho _ (numZ_from h2 a e1 e2).1 (numZ_from h2 a e1 e2).2 (h4 a e1 e2)⟩
theorem Qz.below {B:Nat} {W W':World} {cs:List Value} {x y:Int} {o:Option Nat} (h:Qz B W cs x y o) (hb:Up W W'):Qz B W' cs x y o:=h.kept hb.size (fun b _ hlt _=>hb.block b hlt) (fun _ _ _ h=>h)
theorem Qz.mono {B B':Nat} {W:World} {cs:List Value} {x y:Int} {o:Option Nat} (h:Qz B W cs x y o) (hb:B'≤B):Qz B' W cs x y o:=by
 obtain ⟨m,D,s,pl,u,E,K,H,J,I,e,j,h2,h3,h4⟩:=h.ex; exact ⟨m,D,s,pl,u,E,K,H,J,I,e,j.mono' hb leR,h2.mono' hb leR,h3,h4⟩
theorem Qz.low {B:Nat} {W:World} {cs:List Value} {x y:Int} {o:Option Nat} (h:Qz B W cs x y o) (a:Addr) (u:Value) (ha:a.block<B):Qz B (W.setCell a u) cs x y o:=
 h.kept (by simp) (fun b hb _ _=>Below.heap_setCell _ a _ _ (by omega)) (fun _ _ _ h=>h)
theorem Qz.shape {B:Nat} {W:World} {cs:List Value} {x y:Int} {o:Option Nat} (h:Qz B W cs x y o):∃ (p0:Int) (pn:Bool) (pa:Option Addr) (pl pc:Nat) (q0:Int) (qn:Bool) (qa:Option Addr) (ql qc:Nat),cs=[.int .i64 p0,.bool pn,.slice pa pl pc,.int .i64 q0,.bool qn,.slice qa ql qc]:=by
 obtain ⟨p0,pn,pa,pl,pc,q0,qn,qa,ql,qc,e,_⟩:=h.ex; exact ⟨p0,pn,pa,pl,pc,q0,qn,qa,ql,qc,e⟩
theorem Qz.isQN {B:Nat} {W:World} {a b c d e f:Value} {x y:Int} {o:Option Nat} (h:Qz B W [a,b,c,d,e,f] x y o):IsQN B W (.agg #[a,b,c,d,e,f]) x y:=by
 obtain ⟨m,D,s,pl,u,E,K,H,J,I,e,j,h2,_⟩:=h.ex; simp only [List.cons.injEq,and_true] at e; obtain ⟨rfl,rfl,rfl,rfl,rfl,rfl⟩:=e; exact ⟨m,D,s,pl,u,E,K,H,J,I,rfl,j,h2⟩
theorem qz_of {B:Nat} {W:World} {z:Value} {x y:Int} (h:IsQN B W z x y) (o:Option Nat) (ho:∀ b,B≤b→b<W.heap.size→o≠some b):∃ a b c d e f,z=.agg #[a,b,c,d,e,f]∧Qz B W [a,b,c,d,e,f] x y o:=by
 obtain ⟨m,D,s,pl,u,E,K,H,J,I,rfl,j,h2⟩:=h; exact ⟨_,_,_,_,_,_,rfl,m,D,s,pl,u,E,K,H,J,I,rfl,j,h2,fun a e1 e2=>ho _ (numZ_from j a e1 e2).1 (numZ_from j a e1 e2).2,fun a e1 e2=>ho _ (numZ_from h2 a e1 e2).1 (numZ_from h2 a e1 e2).2⟩
def QRow (base:Nat) (W:World) (v:Value) (Q:List (Int×Int)):Prop:=
 ∃ xs,W.ownsRow base 55 6 v Q.length xs∧∀ i (_:i<Q.length),Qz base W ((xs.drop (i*6)).take 6) Q[i].1 Q[i].2 v.ownBlock
theorem QRow.below {base:Nat} {W W':World} {v:Value} {Q:List (Int×Int)} (h:QRow base W v Q) (hb:Up W W'):QRow base W' v Q:=by
 obtain ⟨m,j,h2⟩:=h; exact ⟨m,row_below j hb,fun i hi=>(h2 i hi).below hb⟩
theorem QRow.mono {base base':Nat} {W:World} {v:Value} {Q:List (Int×Int)} (h:QRow base W v Q) (hb:base'≤base):QRow base' W v Q:=by
 obtain ⟨m,j,h2⟩:=h; exact ⟨m,own_lower j hb,fun i hi=>(h2 i hi).mono hb⟩
theorem QRow.low {base:Nat} {W:World} {v:Value} {Q:List (Int×Int)} (h:QRow base W v Q) (a:Addr) (u:Value) (ha:a.block<base):QRow base (W.setCell a u) v Q:=by
 obtain ⟨m,j,h2⟩:=h; exact ⟨m,ownsRow_setCell_below j ha u,fun i hi=>(h2 i hi).low a u ha⟩
theorem QRow.nil (base:Nat) (W:World):QRow base W (.slice none 0 0) []:=⟨[],World.ownsRow_nil _ _ _ _,fun _ hi=>absurd hi (Nat.not_lt_zero _)⟩
theorem QRow.form {base:Nat} {W:World} {v:Value} {Q:List (Int×Int)} (h:QRow base W v Q):∃ a b,v=.slice a Q.length b:=by
 obtain ⟨u,s,_⟩:=h
 rcases s.2 with ⟨e,m⟩|⟨g,cap,j,e,_⟩
 ·exact ⟨none,0,by rw [e,m]⟩
 exact ⟨_,_,e⟩
theorem info_q0:(Tryz.prog.info? 55).map (fun i=>(i.zero,i.size,i.bytes))=some (some (.agg #[.int .i64 0,.bool false,.slice none 0 0,.int .i64 0,.bool false,.slice none 0 0]),6,80):=by kernel_rfl
theorem info_q:∃ i:TypeInfo,Tryz.prog.info? 55=some i∧i.zero=some (.agg #[.int .i64 0,.bool false,.slice none 0 0,.int .i64 0,.bool false,.slice none 0 0])∧i.size=6∧i.bytes=80:=info_parts info_q0
theorem step_appQ {ops:Array Oper} {o:Oper} {a:Act} {K:Act→World→Prop} {Q:Exit→Act→World→Prop} {E:Prop} {W:World} {base:Nat} {v:Value} {N:List (Int×Int)} (hgd:o.guard=none) (s y:Operand)
 (ho:o.op=.call { callee:=.builtin .append,args:=#[s,y],argTypes:=#[58,58] }) (hs:a.eval s=v) (hown:QRow base W v N) {c0 c1 c2 c3 c4 c5:Value} {x d:Int} (hz:Qz base W [c0,c1,c2,c3,c4,c5] x d v.ownBlock)
 (H:Nat) (hx:a.eval y=.slice (some ⟨H,0,none⟩) 1 1) (hH:W.heap.size=H) (n:Nat) (hnl:N.length=n) (hn:n≤1000000000) (hbase:base≤W.heap.size)
 (h:∀ g cap W',QRow base W' (.slice (some ⟨g,0,none⟩) (n+1) cap) (N++[(x,d)])→W.heap.size<W'.heap.size→W.grownBy W' v.ownBlock→K (a.put o.dst (.slice (some ⟨g,0,none⟩) (n+1) cap)) W') :
 if Region.wanted o (yielded ops a.tmps)=true then Oper.wp Tryz.prog o a (W.alloc (.cells #[c0,c1,c2,c3,c4,c5] 55)) K Q else E:=by
 subst hH; subst hnl; obtain ⟨i0,I,T,U,V⟩:=info_q; obtain ⟨Z,Y,h2⟩:=hown; have J:∀ u∈[c0,c1,c2,c3,c4,c5],u.oneCell'=true:=by
  obtain ⟨p0,pn,pa,pl,pc,q0,qn,qa,ql,qc,e⟩:=hz.shape; rw [e]; simp [Value.oneCell']
 refine step_append_lies _ hgd s y 58 ho base 55 i0 _ 6 80 Tryz.underlying58 I T U V rfl (by decide) v N.length Z hs (Y.alloc _) ⟨W.heap.size,0,none⟩ 1 1 [c0,c1,c2,c3,c4,c5] hx rfl
  (World.news_of_block (cs:=#[c0,c1,c2,c3,c4,c5]) (t:=55) (fr:=(0,0)) (heap_alloc_new W _)) J (by decide) (by unfold maxLen; omega) (by omega) (by simp; omega) _ rfl ?_
 intro g cap W' k1 k2 k3 k4; have D:W.heap.size<W'.heap.size:=by have:=k2.size; simp at this; omega
 have j:∀ b,base≤b→b<W.heap.size→v.ownBlock≠some b→W'.heap[b]? = W.heap[b]? := fun b _ hb hne=>by
  rw [k2.block b (by simp; omega) (by intro e; exact hne e.symm)]; exact (below_alloc W _).block b hb
 have m:∀ b,base≤b→b<W.heap.size→v.ownBlock≠some b→(Value.slice (some ⟨g,0,none⟩) (N.length+1) cap).ownBlock≠some b:=fun b _ hb hne e=>by
  have e:some g=some b:=e; injection e with e
  rcases k3 with k3|k3
  ·exact hne (by rw [k3,e])
  simp at k3; omega
 have M:W.grownBy W' v.ownBlock:=(World.grownBy_alloc W _ v.ownBlock).trans k2; refine h g cap W' ⟨_,by rw [List.length_append]; exact k1,fun i hi=>?_⟩ D M; rw [List.length_append] at hi; have hx:Z.length=N.length*6:=Y.1
 by_cases e:i<N.length
 ·rw [List.getElem_append_left e,List.drop_append_of_le_length (by omega),List.take_append_of_le_length (by simp; omega)]; exact (h2 i e).kept (Nat.le_of_lt D) j m
 have O:i=N.length:=by simp at hi; omega
 subst O; rw [List.drop_append_of_le_length (by omega),List.drop_eq_nil_of_le (by omega),List.nil_append,List.getElem_append_right leR]; simp only [Nat.sub_self,List.getElem_cons_zero]; exact hz.kept (Nat.le_of_lt D) j m
theorem int_noCut (s:ByteArray) (h:isIntB s=true):IsCut s none:=by
 intro j e; obtain ⟨m,_,_⟩:=isIntB_dig s h; have H:(47:UInt8)∈s.data.toList:=List.mem_of_getElem? e; have E:∀ c∈s.data.toList,c=45∨dig c:=by
  intro c y
  cases hn:isNeg s with
  | false=>rw [dgs_pos s hn] at m; exact .inr (m c y)
  | true=>
    rw [dgs_neg s hn] at m; obtain ⟨J,D⟩:=isNeg_yes s hn; obtain ⟨i,K,rfl⟩:=List.getElem_of_mem y
    by_cases u:i=0
    ·subst u
     left
     have:s[0]=45:=UInt8.toNat_inj.1 D; exact this
    ·right
     refine m _ ?_; rw [Lib.extract_data]; have I:s.data.toList.length=s.size:=by simp
     rw [List.mem_iff_getElem]; refine ⟨i - 1,by simp; omega,?_⟩; simp [show i - 1+1=i by omega]
 rcases E 47 H with h|h
 ·exact absurd h (by decide)
 unfold dig at h; have:(47:UInt8).toNat=47:=rfl; omega
theorem ratV_text {s:List UInt8} (h:textOk s=true):IsCut (strOf s) none∧RatV (strOf s) none (numT (strOf s)) 1:=by
 unfold textOk at h; have j:=(Bool.and_eq_true_iff.1 h).1; exact ⟨int_noCut _ j,j,rfl,rfl⟩
theorem l2ReadI_any (s:List UInt8) (w:World) (hs:s.length≤1048576) (ht:textOk s=true) :
 Calls Tryz.prog 23 #[.string (strOf s)] w fun e w'=>∃ z,e=.returned z∧IsQN w.heap.size w' z (numT (strOf s)) 1∧Up w w':=
 l2Read_any _ none _ _ w (by rw [strOf_size]; unfold maxLen; omega) (ratV_text ht).1 (ratV_text ht).2
structure Nr where
 cs:List Int
 st:Bool
 bd:Int
def nrOf (f:Lr):Nr:=⟨f.cs.map (fun s=>numT (strOf s)),f.st,numT (strOf f.bd)⟩
structure Rz (B:Nat) (W:World) (cs:List Value) (f:Nr):Prop where
 ex:∃ (va:Value) (c0 c1 c2 c3 c4 c5:Value),cs=[va,.bool f.st,c0,c1,c2,c3,c4,c5]∧QRow B W va (f.cs.map (fun x=>(x,1)))∧Qz B W [c0,c1,c2,c3,c4,c5] f.bd 1 none
theorem Rz.below {B:Nat} {W W':World} {cs:List Value} {f:Nr} (h:Rz B W cs f) (hb:Up W W'):Rz B W' cs f:=by
 obtain ⟨va,c0,c1,c2,c3,c4,c5,e,j,h2⟩:=h.ex; exact ⟨va,c0,c1,c2,c3,c4,c5,e,j.below hb,h2.below hb⟩
theorem Rz.low {B:Nat} {W:World} {cs:List Value} {f:Nr} (h:Rz B W cs f) (a:Addr) (u:Value) (ha:a.block<B):Rz B (W.setCell a u) cs f:=by
 obtain ⟨va,c0,c1,c2,c3,c4,c5,e,j,h2⟩:=h.ex; exact ⟨va,c0,c1,c2,c3,c4,c5,e,j.low a u ha,h2.low a u ha⟩
def RRow (base B:Nat) (W:World) (v:Value) (F:List Nr):Prop:=
 ∃ xs,W.ownsRow base 75 8 v F.length xs∧∀ i (_:i<F.length),Rz B W ((xs.drop (i*8)).take 8) F[i]
theorem RRow.below {base B:Nat} {W W':World} {v:Value} {F:List Nr} (h:RRow base B W v F) (hb:Up W W'):RRow base B W' v F:=by
 obtain ⟨m,j,h2⟩:=h; exact ⟨m,row_below j hb,fun i hi=>(h2 i hi).below hb⟩
theorem info_lr0:(Tryz.prog.info? 75).map (fun i=>(i.zero,i.size,i.bytes))=some (some (.agg #[.slice none 0 0,.bool false,.int .i64 0,.bool false,.slice none 0 0,.int .i64 0,.bool false,.slice none 0 0]),8,112):=by kernel_rfl
theorem info_lr:∃ i:TypeInfo,Tryz.prog.info? 75=some i∧i.zero=some (.agg #[.slice none 0 0,.bool false,.int .i64 0,.bool false,.slice none 0 0,.int .i64 0,.bool false,.slice none 0 0])∧i.size=8∧i.bytes=112:=info_parts info_lr0
theorem bx_grown {W W':World} {g:Nat} {l:List Value} {o:Option Nat} (h:Bx W g l) (hg:W.grownBy W' o) (ho:o≠some g):Bx W' g l:=by
 have j:=h.lt; obtain ⟨m,h⟩:=h; exact ⟨m,(hg.block g j (Ne.symm ho)).trans h⟩
theorem qz_mk {B:Nat} {W:World} {a b c d e f:Value} {x y:Int} (h:IsQN B W (.agg #[a,b,c,d,e,f]) x y) (o:Option Nat) (ho:∀ b,B≤b→b<W.heap.size→o≠some b):Qz B W [a,b,c,d,e,f] x y o:=by
 obtain ⟨m,s,u,D,E,H,e,j⟩:=qz_of h o ho; simp only [Value.agg.injEq,Array.mk.injEq,List.cons.injEq,and_true] at e; obtain ⟨rfl,rfl,rfl,rfl,rfl,rfl⟩:=e; exact j
structure RS (W1 wc:World) (bx:Nat) (va:Value) (rest:List Value) (Q:List (Int×Int)) (W:World):Prop where
 box:Bx W bx (va::rest)
 row:QRow wc.heap.size W va Q
 same:∀ b,b<wc.heap.size→b≠bx→W.heap[b]? = wc.heap[b]?
 size:wc.heap.size≤W.heap.size
 bel:Up W1 W
theorem Bx.c8 {W:World} {g:Nat} {a0 a1 a2 a3 a4 a5 a6 a7:Value} (h:Bx W g [a0,a1,a2,a3,a4,a5,a6,a7]):W.cell? ⟨g,0,none⟩=some a0∧W.cell? ⟨g,1,none⟩=some a1∧W.cell? ⟨g,2,none⟩=some a2∧W.cell? ⟨g,3,none⟩=some a3∧W.cell? ⟨g,4,none⟩=some a4∧W.cell? ⟨g,5,none⟩=some a5∧W.cell? ⟨g,6,none⟩=some a6∧W.cell? ⟨g,7,none⟩=some a7:=⟨h.cell 0,h.cell 1,h.cell 2,h.cell 3,h.cell 4,h.cell 5,h.cell 6,h.cell 7⟩
theorem set8_same (xs:List Value) (i:Nat) (h:i*8+8≤xs.length) (a0 a1 a2 a3 a4 a5 a6 a7:Value):(((((((((xs.set (i*8) a0).set (i*8+1) a1).set (i*8+2) a2).set (i*8+3) a3).set (i*8+4) a4).set (i*8+5) a5).set (i*8+6) a6).set (i*8+7) a7).drop (i*8)).take 8=[a0,a1,a2,a3,a4,a5,a6,a7]:=by
 apply List.ext_getElem?; intro n
 by_cases hn:n<8
 ·rw [List.getElem?_take_of_lt hn,List.getElem?_drop]; have j:n=0∨n=1∨n=2∨n=3∨n=4∨n=5∨n=6∨n=7:=by omega
  rcases j with rfl|rfl|rfl|rfl|rfl|rfl|rfl|rfl
  ·show (_:List Value)[i*8]? = _
   rw [List.getElem?_set_ne (by omega),List.getElem?_set_ne (by omega),List.getElem?_set_ne (by omega),List.getElem?_set_ne (by omega),List.getElem?_set_ne (by omega),List.getElem?_set_ne (by omega),List.getElem?_set_ne (by omega),List.getElem?_set_self (by omega)]; rfl
  ·rw [List.getElem?_set_ne (by omega),List.getElem?_set_ne (by omega),List.getElem?_set_ne (by omega),List.getElem?_set_ne (by omega),List.getElem?_set_ne (by omega),List.getElem?_set_ne (by omega),List.getElem?_set_self (by simp; omega)]; rfl
  ·rw [List.getElem?_set_ne (by omega),List.getElem?_set_ne (by omega),List.getElem?_set_ne (by omega),List.getElem?_set_ne (by omega),List.getElem?_set_ne (by omega),List.getElem?_set_self (by simp; omega)]; rfl
  ·rw [List.getElem?_set_ne (by omega),List.getElem?_set_ne (by omega),List.getElem?_set_ne (by omega),List.getElem?_set_ne (by omega),List.getElem?_set_self (by simp; omega)]; rfl
  ·rw [List.getElem?_set_ne (by omega),List.getElem?_set_ne (by omega),List.getElem?_set_ne (by omega),List.getElem?_set_self (by simp; omega)]; rfl
  ·rw [List.getElem?_set_ne (by omega),List.getElem?_set_ne (by omega),List.getElem?_set_self (by simp; omega)]; rfl
  ·rw [List.getElem?_set_ne (by omega),List.getElem?_set_self (by simp; omega)]; rfl
  rw [List.getElem?_set_self (by simp; omega)]; rfl
 rw [List.getElem?_eq_none (by simp; omega),List.getElem?_eq_none (by simp; omega)]
theorem set8_other (xs:List Value) (i j:Nat) (hij:j≠i) (a0 a1 a2 a3 a4 a5 a6 a7:Value):(((((((((xs.set (i*8) a0).set (i*8+1) a1).set (i*8+2) a2).set (i*8+3) a3).set (i*8+4) a4).set (i*8+5) a5).set (i*8+6) a6).set (i*8+7) a7).drop (j*8)).take 8=(xs.drop (j*8)).take 8:=by
 apply List.ext_getElem?; intro n
 by_cases hn:n<8
 ·rw [List.getElem?_take_of_lt hn,List.getElem?_drop,List.getElem?_take_of_lt hn,List.getElem?_drop,List.getElem?_set_ne (by omega),List.getElem?_set_ne (by omega),List.getElem?_set_ne (by omega),List.getElem?_set_ne (by omega),List.getElem?_set_ne (by omega),List.getElem?_set_ne (by omega),List.getElem?_set_ne (by omega),List.getElem?_set_ne (by omega)]
 rw [List.getElem?_eq_none (by simp; omega),List.getElem?_eq_none (by simp; omega)]
theorem put8 {P:World→Prop} {g:Nat} (h:∀ W j u,P W→P (W.setCell ⟨g,j,none⟩ u)) {W:World} (h0:P W) (j0 j1 j2 j3 j4 j5 j6 j7:Nat) (u0 u1 u2 u3 u4 u5 u6 u7:Value):P ((((((((W.setCell ⟨g,j0,none⟩ u0).setCell ⟨g,j1,none⟩ u1).setCell ⟨g,j2,none⟩ u2).setCell ⟨g,j3,none⟩ u3).setCell ⟨g,j4,none⟩ u4).setCell ⟨g,j5,none⟩ u5).setCell ⟨g,j6,none⟩ u6).setCell ⟨g,j7,none⟩ u7):=(h _ _ _ (h _ _ _ (h _ _ _ (h _ _ _ (h _ _ _ (h _ _ _ (h _ _ _ (h _ _ _ h0))))))))
theorem l12Read_any (v:Value) (F:List Lr) (w:World) (h:RowsAt w v F) (hs:F.length≤1048576∧∀ f∈F,SmallR f) (hok:∀ f∈F,textOk f.bd=true∧f.cs.all textOk=true∧f.cs.length≤20) :
 Calls Tryz.prog 16 #[v] w fun e w'=>∃ v',e=.returned v'∧(∃ p c,v'=.slice p F.length c)∧RRow w.heap.size (w.heap.size+1) w' v' (F.map nrOf)∧Up w w':=by
 obtain ⟨p,c,rfl,l1,m1,r1⟩:=h; unfold maxLen at m1; have H1:=Hd r1; have k8:=Hd hs.2; have hl:=hs.1; have j6:=Hd hok; obtain ⟨i0,i8,n8,n9,o8⟩:=info_lr; clear r1 hs hok
 go_enter Tryz.func16,Tryz.ntmps16
 go_wp2_with (at_make; refine wpList_make_full _ rfl _ _ 42 rfl w.heap.size 75 i0 _ 8 Tryz.underlying42 i8 n8 n9 .i64 .i64 _ _ F.length rfl rfl (by simp) (by simp) (by rw [o8]; omega) (by unfold maxLen; omega) leR ?_)
 intro w1 b9 i7; have j2:Hid (Up w w1):=(Below.refl _ _).grown i7 leR (fun k e=>by cases e); have g9:=Hd b9; clear b9 i7
 go_wp2_with fail
 go_loopw [14] (fun iv wr=>∃ (i:Nat) (ys:List Value),i≤F.length∧iv=.int .i64 (i:Nat)∧wr.ownsRow w.heap.size 75 8 (.slice (some ⟨w.heap.size,0,none⟩) F.length F.length) F.length ys∧(∀ j (_:j<F.length),j<i→Rz (w.heap.size+1) wr ((ys.drop (j*8)).take 8) (nrOf F[j]))∧Up w wr) (fun iv _=>F.length - (intOf iv).toNat)
 case atStart=>exact ⟨0,_,Nat.zero_le _,rfl,g9.o,fun j _ h=>absurd h (Nat.not_lt_zero _),j2.o⟩
 case round=>
  rename World=>wo
  obtain ⟨i,ys,hi,rfl,b8,d7,hB⟩:=hrel; have a9:=Hd b8; have d6:=Hd d7; have HB:=Hd hB; have t8:w.heap.size+1≤wo.heap.size:=(b8.lt _ rfl).2; clear b8 d7 g9
  by_cases hlt:i<F.length
  ·obtain ⟨b,rfl,hb,hA⟩:∃ b,p=some ⟨b,0,none⟩∧b<w.heap.size∧∀ i (h:i<F.length),(∃ va,w.cell? ⟨b,i*3,none⟩=some va∧StrsAt w va F[i].cs)∧w.cell? ⟨b,i*3+1,none⟩=some (.bool F[i].st)∧w.cell? ⟨b,i*3+2,none⟩=some (.string (strOf F[i].bd)):=by
    rcases H1.o with h|h
    ·rw [h] at hlt; exact absurd hlt (Nat.not_lt_zero _)
    ·exact h
   obtain ⟨⟨va,k0,e9⟩,k1,k2⟩:=hA i hlt; rw [← hB.cell (p:=⟨b,i*3,none⟩) hb] at k0; rw [← hB.cell (p:=⟨b,i*3+1,none⟩) hb] at k1; rw [← hB.cell (p:=⟨b,i*3+2,none⟩) hb] at k2; have e3:=Hd (k8.o _ (List.getElem_mem hlt)); have d2:=Hd (j6.o _ (List.getElem_mem hlt)); obtain ⟨f,hf⟩:=exW (F[i]); have HF:=Hd hf; rw [hf] at k1 k2 e9 e3 d2; have k9:=Hd (e9.below hB); obtain ⟨pa,ca,rfl,w7,p0,p1⟩:=e9; unfold maxLen at p0; obtain ⟨y,b5⟩:=exW (wo.alloc (.cells #[.slice pa f.cs.length ca,.bool f.st,.string (strOf f.bd)] 38)); have i2:Up wo y:=by rw [← b5]; exact below_alloc _ _
   have i3:Bx y wo.heap.size [.slice pa f.cs.length ca,.bool f.st,.string (strOf f.bd)]:=by rw [← b5]; exact bx_new wo _ _
   have l0:=Hd b5; have b4:=Hd i3; have D:=Hd i2; have e8:y.heap.size=wo.heap.size+1:=by rw [← b5]; simp
   have e2:=Hd e8; have k5:Hid (∀ W,Calls Tryz.prog 23 #[.string (strOf f.bd)] W fun e w'=>∃ z,e=.returned z∧IsQN W.heap.size w' z (numT (strOf f.bd)) 1∧Up W w'):=fun W=>l2ReadI_any _ W e3.o.2 d2.o.1; clear hf hA p1 b5 i2 i3 hB e8
   go_upto_region 1 with (rw [l0.o])
   go_cut [6] (fun s6 wx=>∃ (bx:Nat) (c0 c1 c2 c3 c4 c5:Value),s6=.pointer (some ⟨bx,0,none⟩)∧wo.heap.size+1≤bx∧Bx wx bx [.slice none 0 0,.bool f.st,c0,c1,c2,c3,c4,c5]∧Qz (wo.heap.size+1) wx [c0,c1,c2,c3,c4,c5] (numT (strOf f.bd)) 1 (some bx)∧Up y wx)
   case first=>
    have g8:Hid (∀ W,Up y W→W.cell? ⟨wo.heap.size,1,none⟩=some (.bool f.st)∧W.cell? ⟨wo.heap.size,2,none⟩=some (.string (strOf f.bd))):=fun W hW=>(b4.o.below b4.o.lt hW).c3.2; obtain ⟨m1,m2⟩:=g8.o y (Below.refl _ _); have q1:wo.heap.size<y.heap.size:=b4.o.lt
    go_region_law
     ((go_simp; refine (k5.o _).mono ?_; rintro e w2 ⟨z,rfl,hz,I⟩; have a8:Hid (Up y w2):=(by first|(exact ⟨I.os,I.tape,I.output,I.size,I.block⟩)|(exact (up_alloc (Below.refl _ _).drew _).trans (I.mono (by simp)))); obtain ⟨M,V,O,U,T,Y,a6,Z,a5,a3,rfl,-,-⟩:=id hz; have h9:=Hd hz; obtain ⟨m3,m4⟩:=g8.o w2 a8.o; have q2:wo.heap.size<w2.heap.size:=Nat.lt_of_lt_of_le q1 a8.o.size; try (have hnb:Bx w2 y.heap.size [.slice none 0 0,.bool false,.int .i64 0,.bool false,.slice none 0 0,.int .i64 0,.bool false,.slice none 0 0]:=(bx_new y.drew [.slice none 0 0,.bool false,.int .i64 0,.bool false,.slice none 0 0,.int .i64 0,.bool false,.slice none 0 0] 75).below (bx_new y.drew [.slice none 0 0,.bool false,.int .i64 0,.bool false,.slice none 0 0,.int .i64 0,.bool false,.slice none 0 0] 75).lt I; obtain ⟨n0,n1,n2,n3,n4,n5,n6,n7⟩:=hnb.c8; have g0:=hnb.frozen 0; have g1:=hnb.frozen 1; have g2:=hnb.frozen 2; have g3:=hnb.frozen 3; have g4:=hnb.frozen 4; have g5:=hnb.frozen 5; have g6:=hnb.frozen 6; have g7:=hnb.frozen 7; have j4:=Hd hnb; clear hnb); clear hz I; go_wp2_with fail))
    all_goals
     go_wp2_with fail
     go_meet
     have e8:=e2.o; have m9:=a8.o.size
     first
      | (have hnb:=j4.o; refine ⟨y.heap.size,_,_,_,_,_,_,rfl,by omega,(((((((hnb.set 0 _).set 1 _).set 2 _).set 3 _).set 4 _).set 5 _).set 6 _).set 7 _,?_,?_⟩
         ·refine Qz.mono (B:=y.heap.size+1) ?_ (by omega); exact put8 (P:=fun W=>Qz (y.heap.size+1) W [.int .i64 M,.bool V,.slice O U T,.int .i64 Y,.bool a6,.slice Z a5 a3] (numT (strOf f.bd)) 1 (some y.heap.size)) (fun W j u h=>h.low ⟨y.heap.size,j,none⟩ u (Nat.lt_succ_self _)) ((qz_mk h9.o (some y.heap.size) (fun b h1 _ h=>by injection h with h; simp at h1; omega)).mono (B':=y.heap.size+1) (by simp)) _ _ _ _ _ _ _ _ _ _ _ _ _ _ _ _
         ·exact put8 (P:=fun W=>Up y W) (fun W j u h=>h.setCell (p:=⟨y.heap.size,j,none⟩) leR u) a8.o _ _ _ _ _ _ _ _ _ _ _ _ _ _ _ _)
      | (refine ⟨w2.heap.size,_,_,_,_,_,_,rfl,by omega,bx_new w2 _ _,?_,a8.o.alloc m9 _⟩; exact ((qz_mk h9.o (some w2.heap.size) (fun b _ hlt h=>by injection h with h; omega)).mono (B':=wo.heap.size+1) (by show wo.heap.size+1≤y.heap.size; omega)).below (below_alloc _ _))
   case rest=>
    obtain ⟨bx,c0,c1,c2,c3,c4,c5,rfl,i5,hX,hQ,e7⟩:=hcut; have HQ:=Hd hQ; obtain ⟨M,V,O,U,T,Y,a6,Z,a5,a3,e6⟩:=hQ.shape; simp only [List.cons.injEq,and_true] at e6; obtain ⟨rfl,rfl,rfl,rfl,rfl,rfl⟩:=e6; have f9:=Hd i5; have h7:Hid (RS y wc bx (.slice none 0 0) [.bool f.st,.int .i64 M,.bool V,.slice O U T,.int .i64 Y,.bool a6,.slice Z a5 a3] [] wc):=⟨hX,QRow.nil _ _,fun _ _ _=>rfl,leR,e7⟩; obtain ⟨r0,r1,r2⟩:=(b4.o.below b4.o.lt e7).c3; have d8:bx<wc.heap.size:=hX.lt; clear hX hQ e7 i5
    go_wp2_with fail
    go_loopw [28] (fun jv wr=>∃ (k:Nat) (vq:Value),k≤f.cs.length∧jv=.int .i64 (k:Nat)∧RS y wc bx vq [.bool f.st,.int .i64 M,.bool V,.slice O U T,.int .i64 Y,.bool a6,.slice Z a5 a3] ((f.cs.take k).map (fun s=>(numT (strOf s),1))) wr) (fun jv _=>f.cs.length - (intOf jv).toNat)
    case atStart=>exact ⟨0,_,Nat.zero_le _,rfl,h7.o⟩
    case round=>
     rename World=>wi
     obtain ⟨k,vq,hk,rfl,hR⟩:=hrel; have H:=Hd hR
     by_cases a7:k<f.cs.length
     ·obtain ⟨pq,cq,rfl⟩:=hR.row.form; have K:((f.cs.take k).map (fun s=>(numT (strOf s),(1:Int)))).length=k:=by simp; omega
      rw [K] at H hR; obtain ⟨w0,s5,e',-,-,b6⟩:=k9.o; simp only [Value.slice.injEq] at e'; obtain ⟨rfl,-,rfl⟩:=e'; obtain ⟨b3,rfl,d4,i6⟩:∃ b3,pa=some ⟨b3,0,none⟩∧b3<wo.heap.size∧∀ i (h:i<f.cs.length),wo.cell? ⟨b3,i,none⟩=some (.string (strOf f.cs[i])):=by
       rcases b6 with h|h
       ·rw [h] at a7; exact absurd a7 (Nat.not_lt_zero _)
       ·exact h
      have k3:=i6 k a7; rw [← (D.o.trans (hR.bel.mono D.o.size)).cell (p:=⟨b3,k,none⟩) d4] at k3; have h0:Hid (∀ W,Calls Tryz.prog 23 #[.string (strOf f.cs[k])] W fun e w'=>∃ z,e=.returned z∧IsQN W.heap.size w' z (numT (strOf f.cs[k])) 1∧Up W w'):=fun W=>l2ReadI_any _ W (e3.o.1.2 _ (List.getElem_mem a7)) (List.all_eq_true.1 d2.o.2.1 _ (List.getElem_mem a7)); have h8:Hid ((f.cs.take (k+1)).map (fun s=>(numT (strOf s),(1:Int)))=(f.cs.take k).map (fun s=>(numT (strOf s),(1:Int)))++[(numT (strOf f.cs[k]),1)]):=by
       unfold Hid; rw [List.take_succ_eq_append_getElem a7,List.map_append]; rfl
      obtain ⟨S,hS⟩:=exW (strOf f.cs[k]); rw [hS] at k3 h0 h8; have q0:=hR.box.cell 0; simp only [List.getElem?_cons_zero] at q0; have r4:k≤20:=by have:=d2.o.2.2; omega
      have j3:=Hd K; have c9:Hid (∀ b,(Value.slice pq k cq).ownBlock=some b→wc.heap.size≤b∧b<wi.heap.size):=fun b e=>by
       obtain ⟨xs,hr,_⟩:=hR.row; exact hr.lt b e
      clear hS i6 b6 hR K
      go_wp2_with fail
      go_region_law
       (first
         | (refine step_appQ (W:=w3) (base:=wc.heap.size) (v:=.slice pq k cq) (N:=(f.cs.take k).map (fun s=>(numT (strOf s),(1:Int)))) (by rfl) _ _ (by rfl) (by rfl) e0.o j8.o _ (by rfl) (by rfl) k j3.o (by omega) k7.o ?_; intro g5 c5 w5 c7 r5 b7; have j9:=Hd c7; have d9:=Hd b7; have d5:=bx_grown e4.o b7 j5.o; have d1:=d5.cell 0; have e1:=d5.frozen 0; simp only [List.getElem?_cons_zero] at d1; have l2:=Hd d5; clear c7 b7 d5)
         | (go_simp; refine (h0.o _).mono ?_; rintro e w3 ⟨z,rfl,hz,E⟩; have J:Hid (Up wi w3):=⟨E.os,E.tape,E.output,E.size,E.block⟩; obtain ⟨p2,p6,p3,p5,p4,p7,q5,p8,q4,p9,rfl,-,-⟩:=id hz; have j8:Hid (Qz wc.heap.size w3 [.int .i64 p2,.bool p6,.slice p3 p5 p4,.int .i64 p7,.bool q5,.slice p8 q4 p9] (numT S) 1 (Value.slice pq k cq).ownBlock):=(qz_mk hz _ (fun b h1 _ h3=>Nat.lt_irrefl _ (Nat.lt_of_lt_of_le (c9.o b h3).2 h1))).mono H.o.size; have e0:Hid (QRow wc.heap.size w3 (.slice pq k cq) ((f.cs.take k).map (fun s=>(numT (strOf s),(1:Int))))):=H.o.row.below J.o; have k7:Hid (wc.heap.size≤w3.heap.size):=Nat.le_trans H.o.size J.o.size; have e4:=Hd (H.o.box.below H.o.box.lt J.o); have j5:Hid ((Value.slice pq k cq).ownBlock≠some bx):=fun e=>Nat.lt_irrefl _ (Nat.lt_of_lt_of_le d8 (c9.o bx e).1); have d0:w3.cell? ⟨bx,0,none⟩=some (.slice pq k cq):=e4.o.cell 0; have q3:bx<w3.heap.size:=e4.o.lt; clear hz E; go_wp2_with fail))
      all_goals
       go_wp2_with fail
       refine ⟨⟨k+1,.slice (some ⟨g5,0,none⟩) (k+1) c5,by omega,by go_num,?_⟩,by simp [intOf]; omega⟩; rw [h8.o]; have j0:y.heap.size≤bx:=by have:=e2.o; have:=f9.o; omega
       have d4:=H.o.bel.trans (J.o.mono H.o.bel.size); refine ⟨l2.o.set 0 _,j9.o.low ⟨bx,0,none⟩ _ d8,fun b h1 h2=>?_,?_,?_⟩
       ·have h4:=H.o.size; have h5:=J.o.size; rw [Below.heap_setCell _ ⟨bx,0,none⟩ _ _ h2,d9.o.block b (by omega) (fun e=>by have:=(c9.o b e.symm).1; omega),J.o.block b (by omega)]; exact H.o.same b h1 h2
       ·have h4:=H.o.size; have h5:=J.o.size; have h6:=d9.o.size; simp; omega
       ·exact (d4.grown d9.o d4.size (fun k e=>by have:=(c9.o k e).1; omega)).setCell (p:=⟨bx,0,none⟩) j0 _
     ·have i9:k=f.cs.length:=by omega
      rw [i9,List.take_length] at H; obtain ⟨n0,n1,n2,n3,n4,n5,n6,n7⟩:=hR.box.c8; clear hR i9; have m:Hid (wi.ownsRow w.heap.size 75 8 (.slice (some ⟨w.heap.size,0,none⟩) F.length F.length) F.length ys):=by
       have hb:=D.o.trans (H.o.bel.mono D.o.size); exact row_below a9.o hb
      obtain ⟨o0,t0⟩:=row_at m.o (i*8) (by omega); obtain ⟨o1,t1⟩:=row_at m.o (i*8+1) (by omega); obtain ⟨o2,t2⟩:=row_at m.o (i*8+2) (by omega); obtain ⟨o3,t3⟩:=row_at m.o (i*8+3) (by omega); obtain ⟨o4,t4⟩:=row_at m.o (i*8+4) (by omega); obtain ⟨o5,t5⟩:=row_at m.o (i*8+5) (by omega); obtain ⟨o6,t6⟩:=row_at m.o (i*8+6) (by omega); obtain ⟨o7,t7⟩:=row_at m.o (i*8+7) (by omega); have g0:=m.o.frozenAt (i*8); have g1:=m.o.frozenAt (i*8+1); have g2:=m.o.frozenAt (i*8+2); have g3:=m.o.frozenAt (i*8+3); have g4:=m.o.frozenAt (i*8+4); have g5:=m.o.frozenAt (i*8+5); have g6:=m.o.frozenAt (i*8+6); have g7:=m.o.frozenAt (i*8+7); obtain ⟨pq,cq,rfl⟩:=H.o.row.form; rw [List.length_map] at H n0; have j7:=Hd (((((((((m.o.stored (i*8) (.slice pq f.cs.length cq)).1.stored (i*8+1) (.bool f.st)).1.stored (i*8+2) (.int .i64 M)).1.stored (i*8+3) (.bool V)).1.stored (i*8+4) (.slice O U T)).1.stored (i*8+5) (.int .i64 Y)).1.stored (i*8+6) (.bool a6)).1.stored (i*8+7) (.slice Z a5 a3)).1); clear t0 t1 t2 t3 t4 t5 t6 t7 g0 g1 g2 g3 g4 g5 g6 g7; obtain ⟨o0,t0⟩:=row_at m.o (i*8) (by omega); obtain ⟨o1,t1⟩:=row_at m.o (i*8+1) (by omega); obtain ⟨o2,t2⟩:=row_at m.o (i*8+2) (by omega); obtain ⟨o3,t3⟩:=row_at m.o (i*8+3) (by omega); obtain ⟨o4,t4⟩:=row_at m.o (i*8+4) (by omega); obtain ⟨o5,t5⟩:=row_at m.o (i*8+5) (by omega); obtain ⟨o6,t6⟩:=row_at m.o (i*8+6) (by omega); obtain ⟨o7,t7⟩:=row_at m.o (i*8+7) (by omega); have g0:=m.o.frozenAt (i*8); have g1:=m.o.frozenAt (i*8+1); have g2:=m.o.frozenAt (i*8+2); have g3:=m.o.frozenAt (i*8+3); have g4:=m.o.frozenAt (i*8+4); have g5:=m.o.frozenAt (i*8+5); have g6:=m.o.frozenAt (i*8+6); have g7:=m.o.frozenAt (i*8+7)
      go_wp2_with fail
      have i4:=D.o.trans (H.o.bel.mono D.o.size); have t9:ys.length=F.length*8:=a9.o.1; refine ⟨⟨i+1,_,by omega,by go_num,j7.o,fun j hj hji=>?_,?_⟩,by simp [intOf]; omega⟩
      ·by_cases e:j=i
       ·subst e; rw [set8_same _ _ (by omega),HF.o]; refine ⟨_,_,_,_,_,_,_,rfl,?_,?_⟩
        ·rw [show (nrOf f).cs.map (fun x=>(x,(1:Int)))=f.cs.map (fun s=>(numT (strOf s),1)) by unfold nrOf; rw [List.map_map]; rfl]; exact put8 (P:=fun W=>QRow (w.heap.size+1) W (.slice pq f.cs.length cq) (f.cs.map (fun s=>(numT (strOf s),1)))) (fun W j u h=>h.low ⟨w.heap.size,j,none⟩ u (Nat.lt_succ_self _)) (H.o.row.mono (by have:=e2.o; have:=f9.o; omega)) _ _ _ _ _ _ _ _ _ _ _ _ _ _ _ _
        ·have hq:Qz (w.heap.size+1) wi [.int .i64 M,.bool V,.slice O U T,.int .i64 Y,.bool a6,.slice Z a5 a3] (numT (strOf f.bd)) 1 none:=(HQ.o.kept H.o.size (fun b _ h2 h3=>H.o.same b h2 (fun e=>h3 (by rw [e]))) (fun _ _ _ _ h=>by cases h)).mono (by omega); exact put8 (P:=fun W=>Qz (w.heap.size+1) W [.int .i64 M,.bool V,.slice O U T,.int .i64 Y,.bool a6,.slice Z a5 a3] (numT (strOf f.bd)) 1 none) (fun W j u h=>h.low ⟨w.heap.size,j,none⟩ u (Nat.lt_succ_self _)) hq _ _ _ _ _ _ _ _ _ _ _ _ _ _ _ _
       ·rw [set8_other _ _ _ e]; exact put8 (P:=fun W=>Rz (w.heap.size+1) W ((ys.drop (j*8)).take 8) (nrOf F[j])) (fun W j u h=>h.low ⟨w.heap.size,j,none⟩ u (Nat.lt_succ_self _)) ((d6.o j hj (by omega)).below i4) _ _ _ _ _ _ _ _ _ _ _ _ _ _ _ _
      ·exact put8 (P:=fun W=>Up w W) (fun W j u h=>h.setCell (p:=⟨w.heap.size,j,none⟩) leR u) (HB.o.trans (i4.mono HB.o.size)) _ _ _ _ _ _ _ _ _ _ _ _ _ _ _ _
  ·have m8:i=F.length:=by omega
   subst m8; clear hB
   go_wp2_with fail
   go_ret
   refine ⟨_,rfl,⟨_,_,rfl⟩,⟨ys,by rw [List.length_map]; exact a9.o,fun j hj=>?_⟩,HB.o⟩; rw [List.length_map] at hj; rw [List.getElem_map]; exact d6.o j hj hj
def gcdK (C:List Int):Nat→Int
 | 0=>0
 | k+1=>gcdI (gcdK C k) (C.getD k 0)
def IsWD (Wh:List Bool) (C:List Int) (g:Int):Prop:=
 ((∃ i,i<C.length∧Wh.getD i true=false∧C.getD i 0≠0)∧g=0)∨((∀ i,i<C.length→Wh.getD i true=false→C.getD i 0=0)∧g=gcdK C C.length)
theorem IsWD.eq {Wh:List Bool} {C:List Int} {g g':Int} (h:IsWD Wh C g) (h':IsWD Wh C g'):g=g':=by
 rcases h with ⟨⟨i,m,h2,h3⟩,rfl⟩|⟨m,rfl⟩<;>rcases h' with ⟨⟨j,s,k2,k3⟩,rfl⟩|⟨s,rfl⟩
 ·rfl
 ·exact absurd (s i m h2) h3
 ·exact absurd (m j s k2) k3
 rfl
theorem gcdK_pos (C:List Int):∀ k,0≤gcdK C k
 | 0=>Int.le_refl _
 | k+1=>by unfold gcdK gcdI; exact Int.natCast_nonneg _
def Tight (Wh:List Bool) (f n:Nr):Prop:=
 ∃ g,IsWD Wh f.cs g∧((g=0∧n=f)∨(g≠0∧n.st=false∧n.cs.length=f.cs.length∧(∀ i,i<f.cs.length→∃ r,IsDiv (f.cs.getD i 0) g (n.cs.getD i 0) r)∧∃ r,IsDiv (f.bd - if f.st then 1 else 0) g n.bd r))
theorem getD_ext {α:Type} {a b:List α} (d:α) (hl:a.length=b.length) (h:∀ i,i<a.length→a.getD i d=b.getD i d):a=b:=by
 refine List.ext_getElem hl fun i h1 h2=>?_; have:=h i h1; rw [List.getD_eq_getElem?_getD,List.getD_eq_getElem?_getD,List.getElem?_eq_getElem h1,List.getElem?_eq_getElem h2] at this; exact this
theorem Tight.eq {Wh:List Bool} {f n n':Nr} (h:Tight Wh f n) (h':Tight Wh f n'):n=n':=by
 obtain ⟨g,K,h⟩:=h; obtain ⟨U,u,h'⟩:=h'; obtain rfl:=K.eq u
 rcases h with ⟨j,rfl⟩|⟨j,m,h2,h3,r,h4⟩<;>rcases h' with ⟨D,rfl⟩|⟨D,E,k2,k3,V,k4⟩
 ·rfl
 ·exact absurd j D
 ·exact absurd D j
 obtain ⟨c,s,b⟩:=n; obtain ⟨I,T,H⟩:=n'; have e1:c=I:=getD_ext 0 (h2.trans k2.symm) fun i hi=>by
  obtain ⟨x,M⟩:=h3 i (by rw [← h2]; exact hi); obtain ⟨y,O⟩:=k3 i (by rw [← h2]; exact hi); exact (isDiv_unique M O).1
 have J:b=H:=(isDiv_unique h4 k4).1; have m:s=false:=m; have E:T=false:=E; rw [e1,J,m,E]
def SaidN (n:Nr) (f:Lr):Prop:=f.st=n.st∧f.cs.length=n.cs.length∧(∀ i,i<n.cs.length→IsText (n.cs.getD i 0) (strOf (f.cs.getD i [])))∧IsText n.bd (strOf f.bd)
theorem strOf_inj {a b:List UInt8} (h:strOf a=strOf b):a=b:=by rw [← strOf_toList a,h,strOf_toList]
theorem SaidN.eq {n:Nr} {f f':Lr} (h:SaidN n f) (h':SaidN n f'):f=f':=by
 obtain ⟨a1,a2,j,a4⟩:=h; obtain ⟨b1,b2,u,y⟩:=h'; obtain ⟨c,s,b⟩:=f; obtain ⟨D,I,m⟩:=f'; have e1:c=D:=getD_ext [] (a2.trans b2.symm) fun i hi=>strOf_inj ((j i (by rw [← a2]; exact hi)).eq (u i (by rw [← a2]; exact hi))); have E:b=m:=strOf_inj (a4.eq y); have H:s=I:=a1.trans b1.symm; rw [e1,E,H]
theorem textOk_int {s:List UInt8} (h:textOk s=true):isIntB (strOf s)=true:=by
 unfold textOk at h; exact (Bool.and_eq_true_iff.1 h).1
theorem nr_at (f:Lr) {i:Nat} (h:i<f.cs.length):(nrOf f).cs.getD i 0=numT (strOf (f.cs.getD i [])):=by
 unfold nrOf; rw [List.getD_eq_getElem?_getD,List.getD_eq_getElem?_getD,List.getElem?_map,List.getElem?_eq_getElem h]; rfl
theorem nr_len (f:Lr):(nrOf f).cs.length=f.cs.length:=by unfold nrOf; rw [List.length_map]
theorem at_mem {α:Type} (l:List α) (d:α) {i:Nat} (h:i<l.length):l.getD i d∈l:=by
 rw [List.getD_eq_getElem?_getD,List.getElem?_eq_getElem h]; exact List.getElem_mem h
theorem said_self {f:Lr} (h1:textOk f.bd=true) (h2:f.cs.all textOk=true):SaidN (nrOf f) f:=by
 refine ⟨rfl,(nr_len f).symm,fun i hi=>?_,text_back _ (textOk_int h1)⟩; rw [nr_len] at hi; rw [nr_at f hi]; exact text_back _ (textOk_int (List.all_eq_true.1 h2 _ (at_mem _ _ hi)))
def TightT (Wh:List Bool) (f f':Lr):Prop:=∃ n,Tight Wh (nrOf f) n∧SaidN n f'
theorem TightT.eq {Wh:List Bool} {f a b:Lr} (h:TightT Wh f a) (h':TightT Wh f b):a=b:=by
 obtain ⟨n,j,h2⟩:=h; obtain ⟨n',m,k2⟩:=h'; obtain rfl:=j.eq m; exact h2.eq k2
theorem TightT.len {Wh:List Bool} {f a:Lr} (h:TightT Wh f a):a.cs.length=f.cs.length:=by
 obtain ⟨n,⟨g,_,j⟩,_,h2,_⟩:=h
 rcases j with ⟨_,rfl⟩|⟨_,_,e,_⟩
 ·exact h2.trans (nr_len f)
 exact h2.trans (e.trans (nr_len f))
theorem low_one {p q c:Int} (hc:c≠0) (h:c.natAbs=Int.gcd (p*c) (q*c)):Int.gcd p q=1:=by
 rw [Int.gcd_mul_right] at h; have j:0<c.natAbs:=by omega
 refine Nat.eq_of_mul_eq_mul_right j ?_; rw [Nat.one_mul]; exact h.symm
theorem floor_tight {b g p q fl r:Int} (st:Bool) (hg:0<g) (hl:IsLow b g p q) (hd:IsDiv p q fl r):∃ r',IsDiv (b - if st then 1 else 0) g (fl - if (st&&decide (q=1)) then 1 else 0) r':=by
 obtain ⟨c,E,rfl,rfl,J,hn⟩:=hl; obtain ⟨rfl,I,h2⟩:=hd; have j:0<c:=by
  rcases Int.lt_trichotomy c 0 with h|h|h
  ·have:=Int.mul_neg_of_pos_of_neg J h; omega
  ·exact absurd h E
  exact h
 have u:((q.natAbs:Nat):Int)=q:=by omega
 rw [u] at h2; have s:(((q*c).natAbs:Nat):Int)=q*c:=by omega
 have y:0≤r*c:=Int.mul_nonneg I (Int.le_of_lt j); have D:r*c<q*c:=Int.mul_lt_mul_of_pos_right h2 j; have m:(fl*q+r)*c=fl*(q*c)+r*c:=by rw [Int.add_mul,Int.mul_assoc]
 cases st with
 | false=>
   refine ⟨r*c,?_,y,by rw [s]; exact D⟩; simp only [Bool.false_and,Bool.false_eq_true,if_false,Int.sub_zero]; exact m
 | true=>
   by_cases h:q=1
   ·subst h; have H:r=0:=by omega
    subst H; refine ⟨1*c - 1,?_,by omega,by rw [s]; omega⟩; simp only [Bool.true_and,decide_true,if_true]; rw [m,Int.sub_mul]; omega
   ·have H:r≠0:=by
     rintro rfl; have h4:=low_one E hn; rw [Int.add_zero,Int.gcd_mul_left_left] at h4; omega
    have h5:c≤r*c:=by
     have:=Int.mul_le_mul_of_nonneg_right (show 1≤r by omega) (Int.le_of_lt j); omega
    refine ⟨r*c - 1,?_,by omega,by rw [s]; omega⟩; simp only [Bool.true_and,if_true,decide_eq_true_eq,if_neg h,Int.sub_zero]; rw [m]; omega
theorem lim_okT (s:ByteArray) (h:isIntB s=true):okL (lim s):=by
 unfold isIntB at h; simp only [Bool.and_eq_true,Bool.or_eq_true,decide_eq_true_eq,Bool.not_eq_true',decide_eq_false_iff_not,List.all_eq_true] at h; obtain ⟨⟨⟨m,h2⟩,h3⟩,h4⟩:=h; have j:∀ c∈(dgs s).data.toList,dig c:=fun c hc=>by have:=h3 c hc; unfold isDig at this; simpa [dig] using this
 exact trimL_ok _ (chunks_ok _ j)
theorem text_lt5 {s:List UInt8} (h:textOk s=true):(numT (strOf s)).natAbs<1000000000 ^ 5:=by
 unfold textOk at h; obtain ⟨j,h2⟩:=Bool.and_eq_true_iff.1 h; have h2:=of_decide_eq_true h2; unfold numT; rw [sg_abs]; refine val_lt_of _ (lim_okT _ j) 5 ?_; have h3:=trimL_len (chunks (dgs (strOf s)).data.toList); have h4:(chunks (dgs (strOf s)).data.toList).length=cnt (dgs (strOf s)).size:=by unfold chunks; simp
 unfold cnt at h4
 show (trimL (chunks (dgs (strOf s)).data.toList)).length≤5
 omega
theorem div_abs {x y q r:Int} (h:IsDiv x y q r):q.natAbs≤x.natAbs+1:=by
 obtain ⟨rfl,m,h2⟩:=h; have j:1≤y.natAbs:=by omega
 have h3:q.natAbs*y.natAbs=(q*y).natAbs:=(Int.natAbs_mul q y).symm
 by_cases u:q.natAbs≤1
 ·omega
 have h4:(q.natAbs - 1)*1≤(q.natAbs - 1)*y.natAbs:=Nat.mul_le_mul_left _ j; have h5:(q.natAbs - 1)*y.natAbs=q.natAbs*y.natAbs - 1*y.natAbs:=Nat.sub_mul _ _ _; rw [h5,h3] at h4; have s:2*y.natAbs≤(q*y).natAbs:=by rw [← h3]; exact Nat.mul_le_mul_right _ (by omega)
 generalize q*y=Z at *; omega
def SmN (n:Nr):Prop:=(∀ x∈n.cs,x.natAbs<1000000000 ^ 6)∧n.bd.natAbs<1000000000 ^ 6
def Sm5 (n:Nr):Prop:=(∀ x∈n.cs,x.natAbs<1000000000 ^ 5)∧n.bd.natAbs<1000000000 ^ 5
theorem sm_of {f:Lr} (h1:textOk f.bd=true) (h2:f.cs.all textOk=true):Sm5 (nrOf f):=by
 refine ⟨fun x hx=>?_,text_lt5 h1⟩; unfold nrOf at hx; obtain ⟨s,h,rfl⟩:=List.mem_map.1 hx; exact text_lt5 (List.all_eq_true.1 h2 _ h)
theorem lt56 {a:Nat} (h:a<1000000000 ^ 5):a+2<1000000000 ^ 6:=by
 have j:(1000000000:Nat) ^ 5=1000000000000000000000000000000000000000000000:=by decide
 have h2:(1000000000:Nat) ^ 6=1000000000000000000000000000000000000000000000000000000:=by decide
 omega
theorem Tight.small {Wh:List Bool} {f n:Nr} (h:Tight Wh f n) (hs:Sm5 f):SmN n:=by
 obtain ⟨g,D,h⟩:=h
 rcases h with ⟨m,rfl⟩|⟨m,u,h2,h3,r,h4⟩
 ·exact ⟨fun x hx=>by have:=lt56 (hs.1 x hx); omega,by have:=lt56 hs.2; omega⟩
 refine ⟨fun x hx=>?_,?_⟩
 ·obtain ⟨i,s,rfl⟩:=List.getElem_of_mem hx; obtain ⟨y,j⟩:=h3 i (by omega); have e:n.cs.getD i 0=n.cs[i]:=by rw [List.getD_eq_getElem?_getD,List.getElem?_eq_getElem s]; rfl
  rw [e] at j; have:=div_abs j; have:=lt56 (hs.1 _ (at_mem f.cs 0 (show i<f.cs.length by omega))); omega
 have:=div_abs h4; have:=lt56 hs.2; have:(f.bd - if f.st=true then 1 else 0).natAbs≤f.bd.natAbs+1:=by split<;>omega
 omega
def BoolsAt (w:World) (v:Value) (L:List Bool):Prop:=
 ∃ p c,v=.slice p L.length c∧L.length≤c∧c≤maxLen∧(L=[]∨∃ b,p=some ⟨b,0,none⟩∧b<w.heap.size∧∀ i (h:i<L.length),w.cell? ⟨b,i,none⟩=some (.bool L[i]))
theorem BoolsAt.below {w w':World} {v:Value} {L:List Bool} (h:BoolsAt w v L) (hb:Up w w'):BoolsAt w' v L:=by
 obtain ⟨p,c,rfl,j,h2,h3⟩:=h; refine ⟨p,c,rfl,j,h2,?_⟩
 rcases h3 with h3|⟨b,e,hl,m⟩
 ·exact .inl h3
 exact .inr ⟨b,e,Nat.lt_of_lt_of_le hl hb.size,fun i hi=>(hb.cell (p:=⟨b,i,none⟩) hl).trans (m i hi)⟩
def Tabs (w:World):Prop:=SP w∧NS w∧LT w
theorem Tabs.below {w w':World} (h:Tabs w) (hb:Up w w'):Tabs w':=⟨h.1.below hb,h.2.1.below hb,h.2.2.below hb⟩
theorem isI_zero (B:Nat) (W:World) (n:Nat):IsI B W (.agg #[.bool false,.slice none 0 0]) 0 n:=
 ⟨false,_,[],rfl,⟨none,0,rfl,leR,Nat.zero_le _,(fun _ h=>by cases h),.inl rfl⟩,(fun h=>absurd rfl h),rfl,Nat.zero_le _⟩
theorem cutI_any (s:List UInt8) (w:World) (hs:s.length≤1048576) (ht:textOk s=true) :
 Calls Tryz.prog 32 #[.string (strOf s)] w fun e w'=>∃ s1 p l c,e=.returned (.agg #[.bool s1,.slice p l c])∧IsI w.heap.size w' (.agg #[.bool s1,.slice p l c]) (numT (strOf s)) 280∧Up w w':=by
 have j:=textOk_int ht; refine (cutInteger_any (strOf s) w (by rw [strOf_size]; unfold maxLen; omega) j).mono ?_; rintro e w' ⟨v,rfl,m,hb⟩; have h:=m; obtain ⟨p,c,rfl,-⟩:=h; exact ⟨_,p,_,c,rfl,⟨isNeg (strOf s),_,lim (strOf s),rfl,m,trimL_trim _,rfl,lim_len' _ j⟩,hb⟩
theorem isI_isZero {B:Nat} {w:World} {s:Bool} {p:Option Addr} {l c:Nat} {x:Int} {n:Nat} (h:IsI B w (.agg #[.bool s,.slice p l c]) x n):((l:Int)==0)=decide (x=0):=by
 obtain ⟨neg,v,t,e,y,u,D,_⟩:=h; simp only [Value.agg.injEq,Array.mk.injEq,List.cons.injEq,Value.bool.injEq,and_true] at e; obtain ⟨_,rfl⟩:=e; obtain ⟨a,cap,e,_⟩:=y; simp only [Value.slice.injEq] at e; obtain ⟨rfl,rfl,rfl⟩:=e; have m:=sg_zero_iff neg t u; rw [D] at m
 by_cases j:x=0
 ·rw [decide_eq_true j,m.1 j]; rfl
 rw [decide_eq_false j]; have:t≠[]:=fun e=>j (m.2 e); have:t.length≠0:=fun e=>this (List.eq_nil_of_length_eq_zero e); simp; omega
theorem quotientText_any (B:Nat) (sa:Bool) (pa:Option Addr) (la ca:Nat) (sb:Bool) (pb:Option Addr) (lb cb:Nat) (x y:Int) (w:World) (hBw:B≤w.heap.size) (ha:IsI B w (.agg #[.bool sa,.slice pa la ca]) x 580) (hb:IsI B w (.agg #[.bool sb,.slice pb lb cb]) y 580) (hy:y≠0) (hT:Tabs w) :
 Calls Tryz.prog 31 #[.agg #[.bool sa,.slice pa la ca],.agg #[.bool sb,.slice pb lb cb]] w fun e w'=>∃ u q r,e=.returned (.string u)∧IsDiv x y q r∧IsText q u∧Up w w':=by
 have J:Hid (∀ W,Up w W→Calls Tryz.prog 60 #[.agg #[.bool sa,.slice pa la ca],.agg #[.bool sb,.slice pb lb cb]] W fun e w'=>∃ z1 z2 q r,e=.returned (.tuple #[z1,z2])∧IsI B w' z1 q 582∧IsI B w' z2 r 583∧IsDiv x y q r∧Up w w'):=fun W hW=>by
  refine (dividedBy_any B _ _ x y 580 580 W (Nat.le_trans hBw hW.size) (ha.below hW) (hb.below hW) hy (by omega) (by omega) (hT.below hW).1).mono ?_; rintro e w' ⟨z1,z2,q,r,rfl,h,h2,h3,h4⟩; exact ⟨z1,z2,q,r,rfl,h,h2,h3,hW.trans (h4.mono hW.size)⟩
 have O:Hid (∀ W W' z q,Up w W→IsI B W z q 582→Up W W'→Calls Tryz.prog 61 #[z] W' fun e w'=>∃ u,e=.returned (.string u)∧IsText q u∧Up w w'):=fun W W' z q hW hz hW'=>by
  have h:=hW.trans (hW'.mono hW.size); refine (textI_any B _ q 582 W' (hz.below hW') (by omega) (hT.below h).2.2).mono ?_; rintro e w' ⟨u,rfl,s,hb⟩; exact ⟨u,rfl,s,h.trans (hb.mono h.size)⟩
 clear ha hb hT
 go_enter Tryz.func31,Tryz.ntmps31
 go_wp2_with (go_at_call 60; refine (J.o _ (up_alloc (below_alloc _ _) _)).mono ?_; rintro e T ⟨z1,z2,q,r,rfl,h,h2,H,j⟩; obtain ⟨s1,Y,U,c1,rfl⟩:=h.shape; obtain ⟨s2,Z,V,c2,rfl⟩:=h2.shape; have I:=Hd h; have K:=Hd H; have D:=Hd j; clear h h2 H j)
 refine (O.o T _ _ q D.o I.o (by first|exact Below.refl _ _|exact below_alloc _ _|exact up_alloc (below_alloc _ _) _)).mono ?_; rintro e w2 ⟨u,rfl,s,m⟩; have M:=Hd s; have E:=Hd m; clear s m
 go_wp2_with fail
 go_ret
 exact ⟨u,q,r,rfl,K.o,M.o,E.o⟩
def numsT (C:List (List UInt8)):List Int:=C.map (fun s=>numT (strOf s))
theorem numsT_at {C:List (List UInt8)} {i:Nat} (h:i<C.length):(numsT C).getD i 0=numT (strOf C[i]):=by
 unfold numsT; rw [List.getD_eq_getElem?_getD,List.getElem?_map,List.getElem?_eq_getElem h]; rfl
theorem bx_far {W:World} {g k:Nat} {l:List Value} (h:Bx W g l) (hk:k≠g) (i j:Nat) (u v:Value):Bx ((W.setCell ⟨k,i,none⟩ u).setCell ⟨k,j,none⟩ v) g l:=by
 obtain ⟨m,h⟩:=h; exact ⟨m,by rw [Below.heap_setCell _ ⟨k,j,none⟩ _ _ (Ne.symm hk),Below.heap_setCell _ ⟨k,i,none⟩ _ _ (Ne.symm hk)]; exact h⟩
theorem Bx.c2 {W:World} {g:Nat} {a b:Value} (h:Bx W g [a,b]):W.cell? ⟨g,0,none⟩=some a∧W.cell? ⟨g,1,none⟩=some b:=⟨h.cell 0,h.cell 1⟩
structure WS (w:World) (X:Int) (s:Bool) (p:Option Addr) (l c:Nat) (W:World):Prop where
 rbx:Bx W w.heap.size [.bool false,.slice none 0 0]
 sbx:Bx W (w.heap.size+1) [.bool s,.slice p l c]
 sum:IsI (w.heap.size+1+1) W (.agg #[.bool s,.slice p l c]) X 280
 bel:Up w W
theorem WS.below {w:World} {X:Int} {s:Bool} {p:Option Addr} {l c:Nat} {W W':World} (h:WS w X s p l c W) (hb:Up W W'):WS w X s p l c W':=
 ⟨h.rbx.below h.rbx.lt hb,h.sbx.below h.sbx.lt hb,h.sum.below hb,h.bel.trans (hb.mono h.bel.size)⟩
theorem wholeDivisor_any (wv cv:Value) (Wh:List Bool) (C:List (List UInt8)) (w:World) (hw:BoolsAt w wv Wh) (hc:StrsAt w cv C) (hlen:Wh.length=C.length) (hs:SmallS C) (hok:C.all textOk=true) (hT:Tabs w) :
 Calls Tryz.prog 29 #[wv,cv] w fun e w'=>∃ s p l c g,e=.returned (.agg #[.bool s,.slice p l c])∧IsWD Wh (numsT C) g∧IsI w.heap.size w' (.agg #[.bool s,.slice p l c]) g 280∧Up w w':=by
 obtain ⟨pw,cw,rfl,T,w2,U⟩:=hw; obtain ⟨pc,cc,rfl,c1,c2,c3⟩:=hc; unfold maxLen at w2 c2; have e9:=Hd U; have e5:=Hd c3; have HS:=Hd hs; have e8:=Hd hok; have HT:=Hd hT; have Z:Hid ((numsT C).length=C.length):=by unfold Hid numsT; rw [List.length_map]
 have c9:=Hd hlen; clear U c3 hs hok hT hlen
 go_enter Tryz.func29,Tryz.ntmps29
 go_wp2_with fail
 obtain ⟨W2,u,d4,x1,x2,f7⟩:=box2 w [.bool false,.slice none 0 0] [.bool false,.slice none 0 0] 67 67; rw [u]; have d1:Hid (WS w 0 false none 0 0 W2):=⟨x1,x2,isI_zero _ _ _,d4⟩; clear u d4 x1 x2 f7
 go_loopw [11] (fun iv wr=>∃ (k:Nat) (s:Bool) (p:Option Addr) (l c:Nat),k≤C.length∧iv=.int .i64 (k:Nat)∧(∀ i,i<k→Wh.getD i true=false→(numsT C).getD i 0=0)∧WS w (gcdK (numsT C) k) s p l c wr) (fun iv _=>C.length - (intOf iv).toNat)
 case atStart=>exact ⟨0,false,none,0,0,Nat.zero_le _,rfl,fun i h=>absurd h (Nat.not_lt_zero _),d1.o⟩
 case round=>
  rename World=>wo
  obtain ⟨k,s,q,l,c,hk,rfl,hz,K⟩:=hrel; have HM:=Hd K; have HZ:=Hd hz; clear d1 hz
  by_cases m:k<C.length
  ·obtain ⟨b,rfl,hb,hA⟩:∃ b,pc=some ⟨b,0,none⟩∧b<w.heap.size∧∀ i (h:i<C.length),w.cell? ⟨b,i,none⟩=some (.string (strOf C[i])):=by
    rcases e5.o with h|h
    ·rw [h] at m; exact absurd m (Nat.not_lt_zero _)
    ·exact h
   obtain ⟨bw,rfl,d5,d2⟩:∃ b,pw=some ⟨b,0,none⟩∧b<w.heap.size∧∀ i (h:i<Wh.length),w.cell? ⟨b,i,none⟩=some (.bool Wh[i]):=by
    rcases e9.o with h|h
    ·have hlen:=c9.o; rw [h] at hlen; rw [← hlen] at m; exact absurd m (Nat.not_lt_zero _)
    ·exact h
   have d8:k<Wh.length:=by have:=c9.o; omega
   have k0:=hA k m; have kw:=d2 k d8; rw [← K.bel.cell (p:=⟨b,k,none⟩) hb] at k0; have c7:Hid (∀ W,Up wo W→W.cell? ⟨bw,k,none⟩=some (.bool Wh[k])):=fun W hW=>((K.bel.trans (hW.mono K.bel.size)).cell (p:=⟨bw,k,none⟩) d5).trans kw; have a7:Hid (Wh.getD k true=Wh[k]):=by unfold Hid; rw [List.getD_eq_getElem?_getD,List.getElem?_eq_getElem d8]; rfl
   have a5:Hid (∀ W,Calls Tryz.prog 32 #[.string (strOf C[k])] W fun e w'=>∃ s1 p l c,e=.returned (.agg #[.bool s1,.slice p l c])∧IsI W.heap.size w' (.agg #[.bool s1,.slice p l c]) ((numsT C).getD k 0) 280∧Up W w'):=fun W=>by
    rw [numsT_at m]; exact cutI_any _ W (HS.o.2 _ (List.getElem_mem m)) (List.all_eq_true.1 e8.o _ (List.getElem_mem m))
   obtain ⟨S,hS⟩:=exW (strOf C[k]); obtain ⟨Bk,d3⟩:∃ B,Wh[k]=B:=⟨_,rfl⟩; rw [hS] at k0 a5; rw [d3] at c7 a7; have d6:bw<wo.heap.size:=Nat.lt_of_lt_of_le d5 K.bel.size; clear hA d2 hS K kw d3
   go_wp2_with fail
   refine (a5.o _).mono ?_; rintro e T ⟨s1,p1,l1,c1,rfl,hf,H⟩; obtain ⟨W2,u⟩:=exW (T.alloc (.cells #[.bool s1,.slice p1 l1 c1] 67)); have E:Up T W2:=by rw [← u]; exact below_alloc _ _
   have b3:Bx W2 T.heap.size [.bool s1,.slice p1 l1 c1]:=by rw [← u]; exact bx_new T _ _
   have a6:=Hd u; have M:=(HM.o.below H).below E; have y:=Hd M; have b7:=Hd (hf.below E); have b6:Hid (Up wo W2):=H.trans (E.mono H.size); have i0:w.heap.size+1+1≤wo.heap.size:=HM.o.sbx.lt; have g4:wo.heap.size≤T.heap.size:=H.size; have J:Hid (∀ W,Up W2 W→(W.cell? ⟨T.heap.size,0,none⟩=some (.bool s1)∧W.cell? ⟨T.heap.size,1,none⟩=some (.slice p1 l1 c1))∧(W.cell? ⟨w.heap.size+1,0,none⟩=some (.bool s)∧W.cell? ⟨w.heap.size+1,1,none⟩=some (.slice q l c))∧W.frozen? ⟨w.heap.size+1,0,none⟩=false∧W.frozen? ⟨w.heap.size+1,1,none⟩=false):=fun W hW=>by
    have hx:=b3.below b3.lt hW; have hy:=M.sbx.below M.sbx.lt hW; exact ⟨hx.c2,hy.c2,hy.frozen 0,hy.frozen 1⟩
   have b8:Hid (∀ W,Up W2 W→Calls Tryz.prog 59 #[.agg #[.bool s,.slice q l c],.agg #[.bool s1,.slice p1 l1 c1]] W fun e w'=>∃ z,e=.returned z∧IsI (w.heap.size+1+1) w' z (gcdK (numsT C) (k+1)) 280∧Up W2 w'):=fun W hW=>by
    refine (commonDivisor_any (w.heap.size+1+1) _ _ _ _ 280 W (Nat.le_trans (Nat.le_trans (by omega) E.size) hW.size) (y.o.sum.below hW) ((b7.o.mono (by omega) leR).below hW) (by omega) (HT.o.below (y.o.bel.trans (hW.mono y.o.bel.size))).2.1).mono ?_; rintro e w' ⟨z,rfl,hz,hb⟩; exact ⟨z,rfl,hz,hW.trans (hb.mono hW.size)⟩
   have O:Hid (∀ w4 s4 p4 l4 c4,Up W2 w4→IsI (w.heap.size+1+1) w4 (.agg #[.bool s4,.slice p4 l4 c4]) (gcdK (numsT C) (k+1)) 280→WS w (gcdK (numsT C) (k+1)) s4 p4 l4 c4 ((w4.setCell ⟨w.heap.size+1,0,none⟩ (.bool s4)).setCell ⟨w.heap.size+1,1,none⟩ (.slice p4 l4 c4))):=fun w4 s4 p4 l4 c4 hb4 hz4=>by
    have h4:=y.o.below hb4; exact ⟨bx_far h4.rbx (by omega) _ _ _ _,(h4.sbx.set 0 _).set 1 _,(hz4.setCell ⟨w.heap.size+1,0,none⟩ _ (Nat.lt_succ_self _)).setCell ⟨w.heap.size+1,1,none⟩ _ (Nat.lt_succ_self _),(h4.bel.setCell (p:=⟨w.heap.size+1,0,none⟩) (by show _≤w.heap.size+1; omega) _).setCell (p:=⟨w.heap.size+1,1,none⟩) (by show _≤w.heap.size+1; omega) _⟩
   have b9:=Hd (isI_isZero b7.o); have kb:=c7.o W2 b6.o; obtain ⟨⟨y0,y1⟩,⟨z0,z1⟩,y2,y3⟩:=J.o W2 (Below.refl _ _); have g2:bw<W2.heap.size:=Nat.lt_of_lt_of_le d6 b6.o.size; have i1:(k:Int)<(Wh.length:Int):=by omega
   clear b3 M E u hf H a5
   cases Bk with
   | true=>
     have a3:Hid (∀ i,i<k+1→Wh.getD i true=false→(numsT C).getD i 0=0):=fun i hi h=>by
      by_cases e:i=k
      ·subst e; rw [a7.o] at h; cases h
      ·exact HZ.o i (by omega) h
     go_wp2_with (first|(rw [a6.o])|(go_at_call 59; refine (b8.o _ (Below.refl _ _)).mono ?_; rintro e w4 ⟨z,rfl,hz4,hb4⟩; obtain ⟨s4,p4,l4,c4,rfl⟩:=hz4.shape; have a9:=Hd hz4; have V:=Hd hb4; obtain ⟨⟨m1,m2⟩,⟨m3,m4⟩,m5,m6⟩:=J.o w4 hb4; clear hz4 hb4))
     go_roundw
     case rel=>exact ⟨k+1,_,_,_,_,by omega,by go_num,a3.o,O.o w4 s4 p4 l4 c4 V.o a9.o⟩
     case measure=>simp [intOf]; omega
   | false=>
     by_cases h0:(numsT C).getD k 0=0
     ·have b4:((l1:Int)==0)=true:=by rw [b9.o]; exact decide_eq_true h0
      have a3:Hid (∀ i,i<k+1→Wh.getD i true=false→(numsT C).getD i 0=0):=fun i hi h=>by
       by_cases e:i=k
       ·subst e; exact h0
       ·exact HZ.o i (by omega) h
      clear h0
      go_wp2_with (first|(rw [a6.o])|(go_at_call 30; refine (isZero_any _ _ _ _ _).mono ?_; rintro e U ⟨rfl,I⟩; have D:Hid (Up W2 U):=(by unfold Hid; rw [I]; exact below_alloc _ _); rw [b4]; obtain ⟨⟨y0,y1⟩,⟨z0,z1⟩,y2,y3⟩:=J.o U D.o; clear I)|(go_at_call 59; refine (b8.o _ D.o).mono ?_; rintro e w4 ⟨z,rfl,hz4,hb4⟩; obtain ⟨s4,p4,l4,c4,rfl⟩:=hz4.shape; have a9:=Hd hz4; have V:=Hd hb4; obtain ⟨⟨m1,m2⟩,⟨m3,m4⟩,m5,m6⟩:=J.o w4 hb4; clear hz4 hb4))
      go_roundw
      case rel=>exact ⟨k+1,_,_,_,_,by omega,by go_num,a3.o,O.o w4 s4 p4 l4 c4 V.o a9.o⟩
      case measure=>simp [intOf]; omega
     ·have b4:((l1:Int)==0)=false:=by rw [b9.o]; exact decide_eq_false h0
      have H0:=Hd h0; clear h0
      go_wp2_with (first|(rw [a6.o])|(go_at_call 30; refine (isZero_any _ _ _ _ _).mono ?_; rintro e U ⟨rfl,I⟩; have D:Hid (Up W2 U):=(by unfold Hid; rw [I]; exact below_alloc _ _); rw [b4]; have j:=(y.o.below D.o).rbx; obtain ⟨r0,r1⟩:=j.c2; have r2:=j.frozen 0; have r3:=j.frozen 1; have a8:=Hd j; clear j I))
      have HE:=Hd ((a8.o.set 0 (.bool false)).set 1 (.slice none 0 0)); obtain ⟨e0,e1⟩:=HE.o.c2; have Y:Hid (Up w ((U.setCell ⟨w.heap.size,0,none⟩ (.bool false)).setCell ⟨w.heap.size,1,none⟩ (.slice none 0 0))):=((y.o.below D.o).bel.setCell (p:=⟨w.heap.size,0,none⟩) leR _).setCell (p:=⟨w.heap.size,1,none⟩) leR _; refine bodyPost_ret (v:=.agg #[.bool false,.slice none 0 0]) ?_ rfl ⟨_,_,_,_,0,rfl,.inl ⟨⟨k,by rw [Z.o]; exact m,a7.o,H0.o⟩,rfl⟩,isI_zero _ _ _,Y.o⟩; simp [results,Tryz.results29,go_sem,e0,e1]
  ·have d7:k=C.length:=by omega
   rw [d7] at HM HZ; have j:=K.rbx; obtain ⟨r0,r1⟩:=j.c2; have r2:=j.frozen 0; have r3:=j.frozen 1; obtain ⟨z0,z1⟩:=K.sbx.c2; have a8:=Hd j; clear K d7 j
   go_wp2_with fail
   have HE:=Hd ((a8.o.set 0 (.bool s)).set 1 (.slice q l c)); obtain ⟨e0,e1⟩:=HE.o.c2; have Y:Hid (Up w ((wo.setCell ⟨w.heap.size,0,none⟩ (.bool s)).setCell ⟨w.heap.size,1,none⟩ (.slice q l c))):=(HM.o.bel.setCell (p:=⟨w.heap.size,0,none⟩) leR _).setCell (p:=⟨w.heap.size,1,none⟩) leR _; have e7:Hid (IsI w.heap.size ((wo.setCell ⟨w.heap.size,0,none⟩ (.bool s)).setCell ⟨w.heap.size,1,none⟩ (.slice q l c)) (.agg #[.bool s,.slice q l c]) (gcdK (numsT C) C.length) 280):=((HM.o.sum.setCell ⟨w.heap.size,0,none⟩ _ (by show w.heap.size<_; omega)).setCell ⟨w.heap.size,1,none⟩ _ (by show w.heap.size<_; omega)).mono (by omega) leR; refine bodyPost_ret (v:=.agg #[.bool s,.slice q l c]) ?_ rfl ⟨_,_,_,_,_,rfl,.inr ⟨fun i hi=>HZ.o i (by rw [Z.o] at hi; exact hi),by rw [Z.o]⟩,e7.o,Y.o⟩; simp [results,Tryz.results29,go_sem,e0,e1]
open Go.ChangeShapes Go.WideShapes Go.ChangeAt Go.RowKit Go.Shelf
def cloneRenS:Go.Shelf.Ren:=⟨fun|41=>28|n=>n,fun|22=>28|23=>9|4=>4|n=>n,fun|n=>n⟩
theorem cloneLaysS:Go.Proofs.SlLaysE0.n41 Tryz.prog cloneRenS:={
 mixed:=by kernel_rfl
 f41:=⟨Tryz.f28.name,by decide,Tryz.func28.trans (congrArg some (by kernel_rfl))⟩
 t4:=Tryz.underlying4
 a4:=Tryz.isAgg4
 z4:=Tryz.sizeOf4
 v4:=Tryz.zeroValue4
 t22:=Tryz.underlying28
 a22:=Tryz.isAgg28
 z22:=Tryz.sizeOf28
 v22:=Tryz.zeroValue28 }
def Plain (v:Value):Prop:=∃ p n c,v=.slice p n c∧(p=none∨∃ b,p=some ⟨b,0,none⟩)
theorem cloneS_any (v:Value) (L:List (List UInt8)) (w:World) (h:StrsAt w v L) (hl:L.length≤1048576) (hP:Plain v) :
 Calls Tryz.prog 28 #[v] w fun e w'=>∃ v',e=.returned v'∧w'.ownsRow w.heap.size 9 1 v' L.length (strsC L)∧Up w w':=by
 obtain ⟨p,c,rfl,Y,h2,h3⟩:=h; obtain ⟨Z,n',V,e,M⟩:=hP; simp only [Value.slice.injEq] at e; obtain ⟨rfl,-,-⟩:=e; obtain ⟨T,s,D,E,H⟩:=info_str
 rcases M with rfl|⟨b,rfl⟩
 ·obtain rfl:L=[]:=by
   rcases h3 with h3|⟨b,e,_⟩
   ·exact h3
   cases e
  refine (AnyE.slices_Clone_nil cloneLaysS 0 c w).mono ?_; rintro e w' ⟨rfl,rfl⟩; exact ⟨_,rfl,⟨rfl,.inl ⟨rfl,rfl⟩⟩,Below.refl _ _⟩
 refine (AnyE.slices_Clone cloneLaysS T (.string ⟨#[]⟩) 1 16 s D E H rfl (by omega) Tryz.sizeOf9 b 0 L.length c (strsC L) w (by simp [strsC]) (by unfold maxLen; omega) (by omega) ?_ ?_).mono ?_
 ·intro j u I; rw [Nat.zero_add]; simp only [strsC,List.getElem?_map,Option.map_eq_some_iff] at I; obtain ⟨x,O,rfl⟩:=I; obtain ⟨m,rfl⟩:=List.getElem?_eq_some_iff.1 O
  rcases h3 with h3|⟨U,e,_,K⟩
  ·rw [h3] at m; exact absurd m (Nat.not_lt_zero _)
  cases e; exact K j m
 ·intro v J; simp only [strsC,List.mem_map] at J; obtain ⟨x,_,rfl⟩:=J; rfl
 rintro e w' ⟨v',rfl,y,-,hb⟩; exact ⟨v',rfl,y,hb⟩
end Go.Proofs.YtknfmkeipeikkaaGreatDoor.L
