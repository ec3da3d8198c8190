import Derived.Test.YtknfmkeipeikkaaGreatDoorTgIp
set_option maxRecDepth 100000
set_option maxHeartbeats 4000000
namespace Go.Proofs.YtknfmkeipeikkaaGreatDoor.L
open Go.ChangeShapes Go.WideShapes Go.ChangeAt Go.RowKit
def cellsR:List Lr→List Value→List Value
 | f::F,a::A=>a::.bool f.st::.string (strOf f.bd)::cellsR F A
 | _,_=>[]
theorem cellsR_len:∀ (F:List Lr) (A:List Value),A.length=F.length→(cellsR F A).length=F.length*3
 | [],[],_=>rfl
 | f::F,a::A,h=>by
   have:=cellsR_len F A (by simpa using h)
   simp only [cellsR,List.length_cons,this]
   omega
 | [],a::A,h=>by simp at h
 | f::F,[],h=>by simp at h
theorem cellsR_app:∀ (F:List Lr) (A:List Value) (f:Lr) (a:Value),A.length=F.length→cellsR (F++[f]) (A++[a])=cellsR F A++[a,.bool f.st,.string (strOf f.bd)]
 | [],[],_,_,_=>rfl
 | g::F,b::A,f,a,h=>by
   have:=cellsR_app F A f a (by simpa using h)
   simp only [List.cons_append,cellsR,this]
 | [],a::A,_,_,h=>by simp at h
 | f::F,[],_,_,h=>by simp at h
theorem cellsR_at:∀ (F:List Lr) (A:List Value) (i:Nat) (h:i<F.length) (h':i<A.length),(cellsR F A)[i*3]? = some A[i]∧(cellsR F A)[i*3+1]? = some (.bool F[i].st)∧(cellsR F A)[i*3+2]? = some (.string (strOf F[i].bd))
 | f::F,a::A,0,_,_=>⟨rfl,rfl,rfl⟩
 | f::F,a::A,i+1,h,h'=>by
   have:=cellsR_at F A i (by simpa using h) (by simpa using h')
   simp only [cellsR,show (i+1)*3=i*3+1+1+1 by omega,show i*3+1+1+1+1=(i*3+1)+1+1+1 by omega,show i*3+1+1+1+2=(i*3+2)+1+1+1 by omega,List.getElem?_cons_succ,List.getElem_cons_succ]
   exact this
 | [],_,_,h,_=>absurd h (Nat.not_lt_zero _)
 | _::_,[],_,_,h=>absurd h (Nat.not_lt_zero _)
structure OutR (base:Nat) (W:World) (v:Value) (F:List Lr) (A:List Value):Prop where
 len:A.length=F.length
 own:W.ownsRow base 38 3 v F.length (cellsR F A)
 rows:∀ i (h:i<A.length) (h':i<F.length),W.ownsRow base 9 1 A[i] F[i].cs.length (strsC F[i].cs)
 apart:∀ i j (hi:i<A.length) (hj:j<A.length),i<j→∀ b,A[i].ownBlock=some b→A[j].ownBlock≠some b
theorem own_block {W:World} {base:Nat} {e:TypeId} {s n b:Nat} {v:Value} {xs:List Value} (h:W.ownsRow base e s v n xs) (hb:v.ownBlock=some b):∃ cur,W.heap[b]? = some (.cells cur e (0,0)):=by
 rcases h.2 with ⟨rfl,_⟩|⟨g,cap,cur,rfl,_,j,_⟩
 ·cases hb
 cases hb; exact ⟨cur,j⟩
theorem own_ne {W:World} {base base':Nat} {e e':TypeId} {s s' n n' b:Nat} {v v':Value} {xs xs':List Value} (h:W.ownsRow base e s v n xs) (h':W.ownsRow base' e' s' v' n' xs') (he:e≠e') (hb:v.ownBlock=some b):v'.ownBlock≠some b:=by
 intro j; obtain ⟨c,m⟩:=own_block h hb; obtain ⟨u,h2⟩:=own_block h' j; rw [m] at h2; injection h2 with h2
 injection h2 with _ h2
 exact he h2
theorem OutR.keep {base:Nat} {W W':World} {v:Value} {F:List Lr} {A:List Value} (h:OutR base W v F A) (hk:∀ b,base≤b→b<W.heap.size→W'.heap[b]? = W.heap[b]?):OutR base W' v F A:=
 ⟨h.len,own_other' h.own (fun g hg=>hk g (h.own.lt g hg).1 (h.own.lt g hg).2),fun i hi hi'=>own_other' (h.rows i hi hi') (fun g hg=>hk g ((h.rows i hi hi').lt g hg).1 ((h.rows i hi hi').lt g hg).2),h.apart⟩
theorem OutR.below {base:Nat} {W W':World} {v:Value} {F:List Lr} {A:List Value} (h:OutR base W v F A) (hb:Up W W'):OutR base W' v F A:=h.keep (fun b _ hlt=>hb.block b hlt)
theorem OutR.nil (base:Nat) (W:World):OutR base W (.slice none 0 0) [] []:=⟨rfl,World.ownsRow_nil _ _ _ _,fun _ h=>absurd h (Nat.not_lt_zero _),fun _ _ h=>absurd h (Nat.not_lt_zero _)⟩
theorem OutR.at {base:Nat} {W:World} {v:Value} {F:List Lr} {A:List Value} (h:OutR base W v F A):RowsAt W v F:=by
 obtain ⟨p,c,rfl,u,h2,h3⟩:=own_row h.own; refine ⟨p,c,rfl,u,h2,?_⟩
 rcases h3 with h3|⟨g,rfl,y⟩
 ·exact .inl (List.eq_nil_of_length_eq_zero h3)
 refine .inr ⟨g,rfl,y,fun i hi=>?_⟩; have j:i<A.length:=by rw [h.len]; exact hi
 obtain ⟨m,e1,s⟩:=cellsR_at F A i hi j; exact ⟨⟨A[i],own_read h.own m,strs_at (h.rows i j hi)⟩,own_read h.own e1,own_read h.own s⟩
theorem OutR.form {base:Nat} {W:World} {v:Value} {F:List Lr} {A:List Value} (h:OutR base W v F A):∃ p c,v=.slice p F.length c:=by
 obtain ⟨p,c,e,_⟩:=own_form h.own; exact ⟨p,c,e⟩
theorem OutR.app {base:Nat} {W W':World} {v v':Value} {F:List Lr} {A:List Value} (h:OutR base W v F A) {f:Lr} {va:Value} (hva:W.ownsRow base 9 1 va f.cs.length (strsC f.cs)) (hne:∀ b,va.ownBlock=some b→∀ a∈A,a.ownBlock≠some b) (hown:W'.ownsRow base 38 3 v' (F.length+1) (cellsR F A++[va,.bool f.st,.string (strOf f.bd)])) (hk:∀ b,b<W.heap.size→v.ownBlock≠some b→W'.heap[b]? = W.heap[b]?):OutR base W' v' (F++[f]) (A++[va]):=by
 have u:9≠38:=by decide
 have m:∀ a L,W.ownsRow base 9 1 a L.length (strsC L)→W'.ownsRow base 9 1 a L.length (strsC L):=fun a L ha=>own_other' ha (fun g hg=>hk g (ha.lt g hg).2 (own_ne ha h.own u hg)); refine ⟨by simp [h.len],?_,fun i hi hi'=>?_,fun i j hi hj hij b hb=>?_⟩
 ·rw [cellsR_app F A f va h.len,List.length_append]; exact hown
 ·by_cases e:i<F.length
  ·have y:i<A.length:=by rw [h.len]; exact e
   rw [List.getElem_append_left y,List.getElem_append_left e]; exact m _ _ (h.rows i y e)
  have e1:i=F.length:=by simp at hi'; omega
  subst e1; rw [List.getElem_append_right leR,List.getElem_append_right (by rw [h.len]; exact leR)]; simp only [Nat.sub_self,List.getElem_cons_zero,h.len]; exact m _ _ hva
 have s:i<A.length:=by simp at hj; omega
 rw [List.getElem_append_left s] at hb
 by_cases e:j<A.length
 ·rw [List.getElem_append_left e]; exact h.apart i j s e hij b hb
 have e1:j=A.length:=by simp at hj; omega
 subst e1; rw [List.getElem_append_right leR]; simp only [Nat.sub_self,List.getElem_cons_zero]; intro D; exact hne b D _ (List.getElem_mem s) hb
theorem wpList_appR {ops:Array Oper} {rest:List Oper} {o:Oper} {a:Act} {Q:Exit→Act→World→Prop} {W:World} {base:Nat} {v:Value} {F:List Lr} {A:List Value} (hgd:o.guard=none) (s y:Operand)
 (ho:o.op=.call { callee:=.builtin .append,args:=#[s,y],argTypes:=#[24,24] }) (hs:a.eval s=v) (hown:OutR base W v F A) {f:Lr} {va:Value} (hva:W.ownsRow base 9 1 va f.cs.length (strsC f.cs)) (hne:∀ b,va.ownBlock=some b→∀ a∈A,a.ownBlock≠some b)
 (H:Nat) (hx:a.eval y=.slice (some ⟨H,0,none⟩) 1 1) (hH:W.heap.size=H) (n:Nat) (hnl:F.length=n) (hn:n≤1000000000) (hbase:base≤W.heap.size)
 (h:∀ g cap W',OutR base W' (.slice (some ⟨g,0,none⟩) (n+1) cap) (F++[f]) (A++[va])→W.heap.size<W'.heap.size→W.grownBy W' v.ownBlock→wpList Tryz.prog ops Q rest (a.put o.dst (.slice (some ⟨g,0,none⟩) (n+1) cap)) W') :
 wpList Tryz.prog ops Q (o::rest) a (W.alloc (.cells #[va,.bool f.st,.string (strOf f.bd)] 38)):=by
 subst hH; subst hnl; obtain ⟨M,j,I,J,K⟩:=info_row; have m:∀ u∈[va,.bool f.st,.string (strOf f.bd)],u.oneCell'=true:=by
  obtain ⟨p,c,rfl,_⟩:=own_form hva; simp [Value.oneCell']
 refine wpList_append_lies _ hgd s y 24 ho base 38 M _ 3 48 Tryz.underlying24 j I J K rfl (by decide) v F.length (cellsR F A) hs (hown.own.alloc _) ⟨W.heap.size,0,none⟩ 1 1 [va,.bool f.st,.string (strOf f.bd)] hx rfl
  (World.news_of_block (cs:=#[va,.bool f.st,.string (strOf f.bd)]) (t:=38) (fr:=(0,0)) (heap_alloc_new W _)) m (by decide) (by unfold maxLen; omega) (by omega) (by simp; omega) _ rfl ?_
 intro g cap W' O k2 k3 k4; have E:W.heap.size<W'.heap.size:=by have:=k2.size; simp at this; omega
 have D:W.grownBy W' v.ownBlock:=(World.grownBy_alloc W _ v.ownBlock).trans k2; refine h g cap W' (hown.app hva hne O (fun b hb hne=>?_)) E D; rw [k2.block b (by simp; omega) (by intro e; exact hne e.symm)]; exact (below_alloc W _).block b hb
def flagOk (cols:Int) (Wh:List Bool) (F:List Lr):Bool:=goodR cols F&&decide ((Wh.length:Int)=cols)
theorem areFlagged_any (cols:Int) (wv v:Value) (Wh:List Bool) (F:List Lr) (w:World) (hw:BoolsAt w wv Wh) (h:RowsAt w v F) (hs:F.length≤1048576∧∀ f∈F,SmallR f) (hc1 : -9223372036854775808≤cols) (hc2:cols≤9223372036854775807) :
 Calls Tryz.prog 11 #[.int .i64 cols,wv,v] w fun e w'=>e=.returned (.bool (flagOk cols Wh F))∧Up w w':=by
 have m:=Hd (goodRows_impl cols v F w h hs hc1 hc2); obtain ⟨D,y,rfl,E,u,-⟩:=hw; obtain ⟨p,c,rfl,-⟩:=h; unfold maxLen at u; unfold flagOk; obtain ⟨g,s⟩:=exW (goodR cols F); rw [s] at m ⊢; clear s hs
 cases g
 all_goals
  go_enter Tryz.func11,Tryz.ntmps11
  go_wp2_with (go_at_call 27; refine m.o.mono ?_; rintro e w' ⟨rfl,hb⟩; have j:=Hd hb; clear hb)
  go_ret
  first
   | exact ⟨rfl,j.o⟩
   | (refine ⟨ret_bool ?_,j.o⟩; rw [Bool.true_and]; exact (by simp [BEq.beq]:((Wh.length:Int)==cols)=decide ((Wh.length:Int)=cols)))
theorem flag_row {cols:Int} {Wh:List Bool} {F:List Lr} (h:flagOk cols Wh F=true) {f:Lr} (hf:f∈F):Wh.length=f.cs.length∧textOk f.bd=true∧f.cs.all textOk=true:=by
 unfold flagOk at h; obtain ⟨j,h2⟩:=Bool.and_eq_true_iff.1 h; have h2:=of_decide_eq_true h2; unfold goodR at j; have h3:=List.all_eq_true.1 (Bool.and_eq_true_iff.1 j).2 f hf; unfold rowOk at h3; obtain ⟨h4,h5⟩:=Bool.and_eq_true_iff.1 h3; obtain ⟨m,s⟩:=Bool.and_eq_true_iff.1 h4; have m:=of_decide_eq_true m; exact ⟨by omega,s,h5⟩
def TightI (cols:Int) (Wh:List Bool) (F:List Lr) (w:World) (e:Ending) (w':World):Prop:=∃ v' F' A,e=.returned v'∧OutR w.heap.size w' v' F' A∧(if flagOk cols Wh F=true then F'.length=F.length∧∀ i,i<F.length→TightT Wh (F.getD i ⟨[],false,[]⟩) (F'.getD i ⟨[],false,[]⟩) else F'=[])∧Up w w'
theorem tighten_impl (cols:Int) (wv v:Value) (Wh:List Bool) (F:List Lr) (w:World) (hw:BoolsAt w wv Wh) (h:RowsAt w v F) (hP:∀ b c,v=.slice (some ⟨b,0,none⟩) F.length c→∀ i,i<F.length→∀ va,w.cell? ⟨b,i*3,none⟩=some va→Plain va) (hs:F.length≤1048576∧∀ f∈F,SmallR f) (hc1 : -9223372036854775808≤cols) (hc2:cols≤9223372036854775807) (hT:Tabs w) :
 Calls Tryz.prog 5 #[.int .i64 cols,wv,v] w (TightI cols Wh F w):=by
 have HC:=Hd (areFlagged_any cols wv v Wh F w hw h hs hc1 hc2); have d8:=Hd hw; have d4:=Hd hP; have d5:=Hd hs.2; have HT:=Hd hT; have hl:=hs.1; obtain ⟨pw,cw,rfl,w1,w2,-⟩:=hw; obtain ⟨p,c,rfl,l1,m1,r1⟩:=h; unfold maxLen at w2 m1; have H1:=Hd r1; clear r1 hs hP hT; obtain ⟨g,hg⟩:=exW (flagOk cols Wh F); have HG:=Hd hg; rw [hg] at HC; clear hg
 cases g
 ·go_enter Tryz.func5,Tryz.ntmps5
  go_wp2_with (go_at_call 11; refine HC.o.mono ?_; rintro e w' ⟨rfl,hb⟩; have HB:=Hd hb; clear hb)
  go_ret
  exact ⟨_,[],[],rfl,OutR.nil _ _,by rw [HG.o]; rfl,HB.o⟩
 go_enter Tryz.func5,Tryz.ntmps5
 go_wp2_with (go_at_call 11; refine HC.o.mono ?_; rintro e w' ⟨rfl,hb⟩; have HB:=Hd hb; clear hb)
 have a6:Hid (∀ f∈F,Wh.length=f.cs.length∧textOk f.bd=true∧f.cs.all textOk=true):=fun f hf=>flag_row HG.o hf
 go_loopw [7,17] (fun tv iv wr=>∃ (k:Nat) (F':List Lr) (A:List Value),k≤F.length∧iv=.int .i64 (k:Nat)∧OutR w.heap.size wr tv F' A∧F'.length=k∧(∀ i,i<k→TightT Wh (F.getD i ⟨[],false,[]⟩) (F'.getD i ⟨[],false,[]⟩))∧Up w wr) (fun _ iv _=>F.length - (intOf iv).toNat)
 case atStart=>exact ⟨0,[],[],Nat.zero_le _,rfl,OutR.nil _ _,rfl,fun i h=>absurd h (Nat.not_lt_zero _),HB.o⟩
 case round=>
  rename World=>wo
  obtain ⟨k,F',A,hk,rfl,hO,a8,b3,M⟩:=hrel; have HO:=Hd hO; have D:=Hd a8; have V:=Hd b3; have y:=Hd M; clear b3 a8
  by_cases m:k<F.length
  ·obtain ⟨b,rfl,hb,hA⟩:∃ b,p=some ⟨b,0,none⟩∧b<w.heap.size∧∀ i (h:i<F.length),(∃ va,w.cell? ⟨b,i*3,none⟩=some va∧StrsAt w va F[i].cs)∧w.cell? ⟨b,i*3+1,none⟩=some (.bool F[i].st)∧w.cell? ⟨b,i*3+2,none⟩=some (.string (strOf F[i].bd)):=by
    rcases H1.o with h|h
    ·rw [h] at m; exact absurd m (Nat.not_lt_zero _)
    ·exact h
   obtain ⟨⟨va,k0,K⟩,k1,k2⟩:=hA k m; have a9:=d4.o b c rfl k m va k0; rw [← M.cell (p:=⟨b,k*3,none⟩) hb] at k0; rw [← M.cell (p:=⟨b,k*3+1,none⟩) hb] at k1; rw [← M.cell (p:=⟨b,k*3+2,none⟩) hb] at k2; have a7:=Hd (d5.o _ (List.getElem_mem m)); have I:=Hd (a6.o _ (List.getElem_mem m)); have Z:Hid (F.getD k ⟨[],false,[]⟩=F[k]):=by unfold Hid; rw [List.getD_eq_getElem?_getD,List.getElem?_eq_getElem m]; rfl
   obtain ⟨f,hf⟩:=exW (F[k]); rw [hf] at k1 k2 K a7 I Z; obtain ⟨pv,cv,rfl⟩:=hO.form; obtain ⟨pa,ca,rfl,g4,e5,e6⟩:=id K; unfold maxLen at e5; obtain ⟨W1,J⟩:=exW (wo.alloc (.cells #[.slice pa f.cs.length ca,.bool f.st,.string (strOf f.bd)] 38)); have Y:Up wo W1:=by rw [← J]; exact below_alloc _ _
   have b4:Bx W1 wo.heap.size [.slice pa f.cs.length ca,.bool f.st,.string (strOf f.bd)]:=by rw [← J]; exact bx_new wo _ _
   have d7:=Hd J; have H:=Hd Y; have u:=M.trans (Y.mono M.size); have d0:=Hd (tightened_any _ _ Wh f W1 (d8.o.below u) (K.below u) a9 I.o.1 a7.o I.o.2.1 I.o.2.2 (HT.o.below u)); obtain ⟨x0,x1,x2⟩:=b4.c3; clear hf hA e6 J Y b4 M hO K a9 u
   go_wp2_with (rw [d7.o])
   refine d0.o.mono ?_; rintro e w2 ⟨v2,f2,rfl,s,T,b5⟩; obtain ⟨p2,c2,rfl,-⟩:=own_form s; have a5:=Hd s; have d6:=Hd T; have U:Hid (Up wo w2):=H.o.trans (b5.mono H.o.size); clear s T b5
   go_wp2_with (at_builtin; refine wpList_appR (W:=w2) (base:=w.heap.size) (F:=F') (A:=A) (f:=f2) rfl _ _ rfl rfl ?own ?va ?hne _ rfl ?hH k ?hk ?hn ?hb ?_)
   case own=>exact HO.o.below U.o
   case va=>exact own_lower a5.o (Nat.le_trans y.o.size H.o.size)
   case hne=>
    intro b hb a ha e0; obtain ⟨j,hj,rfl⟩:=List.getElem_of_mem ha; have h1:=own_base a5.o b hb; have h2:=((HO.o.rows j hj (by rw [← HO.o.len]; exact hj)).lt b e0).2; have h3:=H.o.size; omega
   case hH=>rfl
   case hk=>exact D.o
   case hn=>omega
   case hb=>exact Nat.le_trans y.o.size U.o.size
   intro g5 c5 w5 E f5 O; have d3:=Hd E; have c7:Hid (Up w w5):=by
    have b6:=y.o.trans (U.o.mono y.o.size); exact b6.grown O b6.size (fun b hb=>(HO.o.own.lt b hb).1)
   have d2:Hid (∀ i,i<k+1→TightT Wh (F.getD i ⟨[],false,[]⟩) ((F'++[f2]).getD i ⟨[],false,[]⟩)):=fun i hi=>by
    have e2:=D.o
    by_cases e:i=k
    ·subst e; rw [Z.o,List.getD_eq_getElem?_getD,List.getElem?_append_right (by omega),e2,Nat.sub_self]; exact d6.o
    ·have:=V.o i (by omega); rw [List.getD_eq_getElem?_getD,List.getD_eq_getElem?_getD] at this; rw [List.getD_eq_getElem?_getD,List.getD_eq_getElem?_getD,List.getElem?_append_left (by omega)]; exact this
   clear E O
   go_wp2_with fail
   go_roundw
   case rel=>exact ⟨k+1,F'++[f2],A++[_],by omega,by go_num,d3.o,by rw [List.length_append,D.o]; rfl,d2.o,c7.o⟩
   case measure=>simp [intOf]; omega
  ·have e4:k=F.length:=by omega
   rw [e4] at D V; clear M hO
   go_wp2_with fail
   go_ret
   exact ⟨_,F',A,rfl,HO.o,by rw [if_pos HG.o]; exact ⟨D.o,V.o⟩,y.o⟩
theorem bx_noInt {W:World} {g:Nat} {l:List Value} (h:Bx W g l) (hl:∀ v∈l,∀ x,v≠.int .u32 x):NoInt W g:=fun i x=>by
 rw [h.cell i]
 intro e
 exact hl _ (List.mem_of_getElem? e) x rfl
theorem bx3_noInt {W:World} {g:Nat} {z0:Int} {zn:Bool} {p:Option Addr} {l c:Nat} (h:Bx W g [.int .i64 z0,.bool zn,.slice p l c]):NoInt W g:=bx_noInt h (by intro v j x; simp at j; rcases j with rfl|rfl|rfl<;>simp)
theorem numZ_not {B:Nat} {W:World} {z0:Int} {zn:Bool} {p:Option Addr} {l c:Nat} {x:Int} {m:Nat} (h:NumZ B W (.agg #[.int .i64 z0,.bool zn,.slice p l c]) x m) {g:Nat} (hn:NoInt W g):∀ a,p=some a→0<l→a.block≠g:=by
 obtain ⟨neg,t,⟨H,h2,h3⟩,r⟩:=h; intro a j hl
 rcases h3 with ⟨h3,v,e,s⟩|⟨_,h3⟩
 ·simp only [Value.agg.injEq,Array.mk.injEq,List.cons.injEq,Value.bool.injEq,and_true] at e; obtain ⟨-,-,rfl⟩:=e; obtain ⟨E,cap,e,I,k2,k3,k4⟩:=s; simp only [Value.slice.injEq] at e; obtain ⟨rfl,rfl,rfl⟩:=e
  rcases k4 with k4|⟨b,off,e,u,y,D⟩
  ·rw [k4] at hl; cases hl
  rw [j] at e; cases e; rintro rfl; exact hn _ _ (D 0 hl)
 simp only [Value.agg.injEq,Array.mk.injEq,List.cons.injEq,Value.slice.injEq,and_true] at h3; obtain ⟨_,_,rfl,rfl,rfl⟩:=h3; cases j
theorem take_at {xs:List Value} {o m:Nat} {ys:List Value} (h:(xs.drop o).take m=ys) {d:Nat} (hd:d<m):xs[o+d]? = ys[d]? := by
 rw [← h,List.getElem?_take_of_lt hd,List.getElem?_drop]
theorem QRow.at {base:Nat} {W:World} {a:Option Addr} {n b:Nat} {Q:List (Int×Int)} (h:QRow base W (.slice a n b) Q) {i:Nat} (hi:i<Q.length) :
 ∃ (g:Nat) (a0:Int) (a1:Bool) (a2:Option Addr) (a3 a4:Nat) (a5:Int) (a6:Bool) (a7:Option Addr) (a8 a9:Nat),a=some ⟨g,0,none⟩∧g<W.heap.size∧(W.cell? ⟨g,i*6,none⟩=some (.int .i64 a0)∧W.cell? ⟨g,i*6+1,none⟩=some (.bool a1)∧W.cell? ⟨g,i*6+2,none⟩=some (.slice a2 a3 a4)∧W.cell? ⟨g,i*6+3,none⟩=some (.int .i64 a5)∧W.cell? ⟨g,i*6+4,none⟩=some (.bool a6)∧W.cell? ⟨g,i*6+5,none⟩=some (.slice a7 a8 a9))∧IsQN base W (.agg #[.int .i64 a0,.bool a1,.slice a2 a3 a4,.int .i64 a5,.bool a6,.slice a7 a8 a9]) Q[i].1 Q[i].2:=by
 obtain ⟨D,j,u⟩:=h; obtain ⟨g,rfl,rfl⟩:∃ g,a=some ⟨g,0,none⟩∧n=Q.length:=by
  rcases j.2 with ⟨_,y⟩|⟨g,cap,s,e,_⟩
  ·omega
  cases e; exact ⟨g,rfl,rfl⟩
 have m:=u i hi; obtain ⟨a0,a1,a2,a3,a4,a5,a6,a7,a8,a9,e⟩:=m.shape; rw [e] at m; refine ⟨g,a0,a1,a2,a3,a4,a5,a6,a7,a8,a9,rfl,(j.lt g rfl).2,⟨?_,?_,?_,?_,?_,?_⟩,m.isQN⟩
 ·rw [j.cellAt (i*6) (by omega)]; exact take_at (d:=0) e (by decide)
 ·rw [j.cellAt (i*6+1) (by omega)]; exact take_at (d:=1) e (by decide)
 ·rw [j.cellAt (i*6+2) (by omega)]; exact take_at (d:=2) e (by decide)
 ·rw [j.cellAt (i*6+3) (by omega)]; exact take_at (d:=3) e (by decide)
 ·rw [j.cellAt (i*6+4) (by omega)]; exact take_at (d:=4) e (by decide)
 rw [j.cellAt (i*6+5) (by omega)]; exact take_at (d:=5) e (by decide)
theorem Bx.c6 {W:World} {g:Nat} {a0 a1 a2 a3 a4 a5:Value} (h:Bx W g [a0,a1,a2,a3,a4,a5]):W.cell? ⟨g,0,none⟩=some a0∧W.cell? ⟨g,1,none⟩=some a1∧W.cell? ⟨g,2,none⟩=some a2∧W.cell? ⟨g,3,none⟩=some a3∧W.cell? ⟨g,4,none⟩=some a4∧W.cell? ⟨g,5,none⟩=some a5:=⟨h.cell 0,h.cell 1,h.cell 2,h.cell 3,h.cell 4,h.cell 5⟩
structure But (g:Nat) (W W':World):Prop where
 size:W.heap.size≤W'.heap.size
 block:∀ b,b<W.heap.size→b≠g→W'.heap[b]? = W.heap[b]?
 no:NoInt W g
theorem numZ_but {B:Nat} {W W':World} {z0:Int} {zn:Bool} {p:Option Addr} {l c:Nat} {x:Int} {m g:Nat} (h:NumZ B W (.agg #[.int .i64 z0,.bool zn,.slice p l c]) x m) (k:But g W W'):NumZ B W' (.agg #[.int .i64 z0,.bool zn,.slice p l c]) x m:=
 numZ_kept h k.size (fun a e1 e2=>k.block _ (numZ_from h a e1 e2).2 (numZ_not h k.no a e1 e2))
theorem Qz.but {B:Nat} {W W':World} {cs:List Value} {x y:Int} {o:Option Nat} {g:Nat} (h:Qz B W cs x y o) (k:But g W W'):Qz B W' cs x y o:=by
 obtain ⟨m,D,s,pl,u,E,K,H,J,I,e,j,h2,h3,h4⟩:=h.ex; exact ⟨m,D,s,pl,u,E,K,H,J,I,e,numZ_but j k,numZ_but h2 k,h3,h4⟩
theorem QRow.but {B:Nat} {W W':World} {v:Value} {Q:List (Int×Int)} {g:Nat} (h:QRow B W v Q) (k:But g W W') (hv:v.ownBlock≠some g):QRow B W' v Q:=by
 obtain ⟨m,j,h2⟩:=h; exact ⟨m,own_other' j (fun b hb=>k.block b (j.lt b hb).2 (fun e=>hv (by rw [hb,e]))),fun i hi=>(h2 i hi).but k⟩
theorem But.one {W:World} {g:Nat} (h:NoInt W g) (i:Nat) (u:Value):But g W (W.setCell ⟨g,i,none⟩ u):=⟨by simp,fun b _ hb=>Below.heap_setCell _ ⟨g,i,none⟩ _ _ hb,h⟩
theorem But.three {W:World} {g:Nat} (h:NoInt W g) (u0 u1 u2:Value):But g W (((W.setCell ⟨g,0,none⟩ u0).setCell ⟨g,1,none⟩ u1).setCell ⟨g,2,none⟩ u2):=
 ⟨(Keeps.three W g u0 u1 u2).1,fun b _ hb=>(Keeps.three W g u0 u1 u2).2 b hb hb,h⟩
theorem numZ_of {B:Nat} {w:World} {z:Value} {x:Int} {N:Nat} (h:IsN B w z x) (hx:x.natAbs<1000000000 ^ N):NumZ B w z x N:=by
 obtain ⟨neg,t,j,h2⟩:=h; refine ⟨neg,t,j,h2,lenLt t N j.2.1 ?_⟩; rw [← h2,sg_abs] at hx; exact hx
theorem numZ_isN {B:Nat} {w:World} {z:Value} {x:Int} {N:Nat} (h:NumZ B w z x N):IsN B w z x:=by
 obtain ⟨neg,t,j,h2,_⟩:=h; exact ⟨neg,t,j,h2⟩
theorem isN_zero {B:Nat} {w:World} {z0:Int} {zn:Bool} {p:Option Addr} {l c:Nat} {x:Int} (h:IsN B w (.agg #[.int .i64 z0,.bool zn,.slice p l c]) x):(((l:Int)==0)&&(z0==0))=decide (x=0):=by
 obtain ⟨neg,t,⟨E,h2,h3⟩,s⟩:=h; have u:=sg_zero_iff neg t h2; rw [s] at u
 rcases h3 with ⟨h3,v,e,y⟩|⟨h4,h3⟩
 ·simp only [Value.agg.injEq,Array.mk.injEq,List.cons.injEq,Value.bool.injEq,Value.int.injEq,and_true] at e; obtain ⟨m,-,rfl⟩:=e; obtain ⟨D,cap,e,H,k2,k3,k4⟩:=y; simp only [Value.slice.injEq] at e; obtain ⟨rfl,rfl,rfl⟩:=e; have j:x≠0:=fun e=>by rw [u.1 e] at h3; simp at h3
  rw [decide_eq_false j]; have:((t.length:Int)==0)=false:=by rw [beq_eq_false_iff_ne]; omega
  rw [this,Bool.false_and]
 simp only [Value.agg.injEq,Array.mk.injEq,List.cons.injEq,Value.bool.injEq,Value.int.injEq,Value.slice.injEq,and_true] at h3; obtain ⟨⟨_,m⟩,_,_,rfl,_⟩:=h3; rw [m,s]
 by_cases j:x=0
 ·rw [decide_eq_true j,j]; rfl
 rw [decide_eq_false j]; simp [j]
theorem l2Zero_any (B:Nat) (p0:Int) (pn:Bool) (pa:Option Addr) (pl pc:Nat) (q0:Int) (qn:Bool) (qa:Option Addr) (ql qc:Nat) (x y:Int) (w:World) (h:IsQN B w (.agg #[.int .i64 p0,.bool pn,.slice pa pl pc,.int .i64 q0,.bool qn,.slice qa ql qc]) x y) :
 Calls Tryz.prog 69 #[.agg #[.int .i64 p0,.bool pn,.slice pa pl pc,.int .i64 q0,.bool qn,.slice qa ql qc]] w fun e w'=>e=.returned (.bool (decide (x=0)))∧Up w w':=by
 have K:(((pl:Int)==0)&&(p0==0))=decide (x=0):=by
  obtain ⟨_,_,_,_,_,_,_,_,_,_,e,J,_⟩:=h; simp only [Value.agg.injEq,Array.mk.injEq,List.cons.injEq,and_true] at e; obtain ⟨T,e1,U,-,-,-⟩:=e; rw [← T,← e1,← U] at J; exact isN_zero (numZ_isN J)
 have O:=Hd K; clear K h; obtain ⟨I,m⟩:=exW (w.alloc (.cells #[.int .i64 p0,.bool pn,.slice pa pl pc,.int .i64 q0,.bool qn,.slice qa ql qc] 55)); have j:Hid (Up w I):=by unfold Hid; rw [← m]; exact below_alloc _ _
 have u:Hid (Bx I w.heap.size [.int .i64 p0,.bool pn,.slice pa pl pc,.int .i64 q0,.bool qn,.slice qa ql qc]):=by unfold Hid; rw [← m]; exact bx_new w _ _
 have D:=Hd m; clear m; have c0:=u.o.cell 0; have c1:=u.o.cell 1; have c2:=u.o.cell 2; simp only [List.getElem?_cons_zero,List.getElem?_cons_succ] at c0 c1 c2
 go_enter Tryz.func69,Tryz.ntmps69
 go_wp2_with (rw [D.o])
 refine (l1Zero_ex _ _ _ _ _ _).mono ?_; rintro e V ⟨rfl,s⟩; have E:Hid (Up w V):=by first|exact j.o.trans (s.mono j.o.size)|(rw [D.o] at s; exact j.o.trans (s.mono j.o.size))
 clear s c0 c1 c2; obtain ⟨r,H⟩:=exW (((pl:Int)==0)&&(p0==0)); have M:=Hd H; rw [H]; clear H
 go_wp2_with fail
 go_ret
 exact ⟨ret_bool (by rw [← M.o]; exact O.o),E.o⟩
theorem gcdI_lt {x y:Int} {N:Nat} (hx:x.natAbs<N) (hy:y.natAbs<N):(gcdI x y).natAbs<N:=by
 unfold gcdI; rw [Int.natAbs_natCast]
 by_cases h:x=0
 ·subst h; rw [Int.gcd_zero_left]; exact hy
 exact Nat.lt_of_le_of_lt (Nat.le_of_dvd (by omega) (Nat.gcd_dvd_left _ _)) hx
theorem gcdK_lt {C:List Int} {N:Nat} (hN:0<N) (h:∀ x∈C,x.natAbs<N):∀ k,k≤C.length→(gcdK C k).natAbs<N
 | 0,_=>by simpa [gcdK] using hN
 | k+1,hk=>by
   unfold gcdK
   exact gcdI_lt (gcdK_lt hN h k (by omega)) (h _ (at_mem C 0 (by omega)))
theorem gcdK_skip {C:List Int} {k:Nat} (h:C.getD k 0=0):gcdK C (k+1)=gcdK C k:=by
 have j:=gcdK_pos C k
 show gcdI (gcdK C k) (C.getD k 0)=gcdK C k
 unfold gcdI; rw [h,Int.gcd_zero_right]; omega
theorem l1GcdN_any (za zb:Value) (x y:Int) (w:World) (ha:NumZ 0 w za x 5) (hb:NumZ 0 w zb y 5) (hx:x.natAbs<1000000000 ^ 5) (hy:y.natAbs<1000000000 ^ 5) :
 Calls Tryz.prog 45 #[za,zb] w fun e w'=>∃ z,e=.returned z∧NumZ 0 w' z (gcdI x y) 5∧Up w w':=by
 obtain ⟨s,a,h,rfl,h3⟩:=ha; obtain ⟨u,b,m,rfl,k3⟩:=hb; refine (l1Gcd_any 0 _ _ s u a b 5 w (Nat.zero_le _) h m h3 k3 (by omega)).mono ?_; rintro e w' ⟨z,rfl,j,hb⟩; exact ⟨z,rfl,numZ_of j (gcdI_lt hx hy),hb⟩
end Go.Proofs.YtknfmkeipeikkaaGreatDoor.L
