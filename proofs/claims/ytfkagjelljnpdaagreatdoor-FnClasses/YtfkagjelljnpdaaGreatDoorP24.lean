import Derived.Test.YtfkagjelljnpdaaGreatDoorP23
set_option linter.all false
set_option maxRecDepth 100000
set_option maxHeartbeats 8000000
namespace Go.Proofs.YtfkagjelljnpdaaGreatDoor
open ChangeShapes WideShapes ChangeAt RowKit Proofs.Tryz
variable {F:List Fn}{S:List (List UInt8)}{T:List Tm}{b e fb gb kb m n sb size:Nat}{g:List UInt8->Option SI}{v v5 vF vS vT:Value}{w w':World}{xs:List Value}
theorem Kn.bar{c:Nat}(h:Kn w b n T)(hb:Bar c w w')(hc:b≠c):Kn w' b n T:=by
 obtain⟨D,⟨q,cl,hm,G⟩,E⟩:=h;have j:b<w.heap.size:=(Jo.1 hm).1;exact⟨D,⟨q,cl,(hb.block b j hc).trans hm,G⟩,E⟩
theorem By(h:Kn w b n T){t:Tm}(ht:WfT t):∃c:Int,(∀i,Kd T t=some i->c=(i:Nat))/\(Instr.lookup 78 (.map (some b)) (Ci t) true).run prog w=.ok (.tuple #[.int .i64 c,.bool (Kd T t).isSome]) w:=by
 obtain⟨D,j,G⟩:=h;have V:(zeroValue 3).run prog w=.ok (.int .i64 0) w:=rfl;obtain⟨v,Y,q,O⟩:=j.look_ok P4 underlying78 V (plainElem_int underlying3 (by decide)) (E0 ht);obtain⟨c,rfl,K,R⟩:=plainElem_int_inv underlying3 O;refine⟨c,fun i hi=>?_,?_⟩
 ·have J:=(G t ht).2 i hi;have E:=congrArg Prod.fst K;rw[J]at E;simp at E;exact E.symm
 rw[q,(G t ht).1]
theorem Aj(h:BK w kb sb fb gb n S F T vS vF vT v5 g)(t:Tm)(vk:Value)(hk:IntsAt w vk t.kids)(num:Tm->Bool)(hT:T.length<=1000000)(hl:t.kids.length<=1048576)(hF:F.length<=1000)(hz:∀u∈T,u.sort.length<=1048576)(hts:t.sort.length<=1048576)(htx:t.text.length<=1048576)(hn:n<=800000000)
 (hnum:t.op=12->((Ou (Oh (Og S)) t.sort).kind=2∨(Ou (Oh (Og S)) t.sort).kind=3)->∀W,Bar gb w W->Calls prog 141 #[.string (Oo t.sort),.string (Oo t.text)] W fun e w'=>e=.returned (.bool (num t))/\Up W w') (hno:Nm (Ou (Oh (Og S))) num F (Ox F) T t=false) :
 Calls prog 81 #[.pointer (some ⟨kb,0,none⟩),G6 t vk] w fun e w'=>e=.returned (.tuple #[.int .i64 0,.int .i64 5])/\Ow w w' kb sb fb gb n S F T vS vF vT v5 60:=by
 have R:=Hd hk;obtain⟨K,E,rfl,G,J,-⟩:=hk;have V:=Hd h;have q:Hid (Up w (w.alloc (.cells #[.int .i64 t.op,.string (Oo t.sort),.string (Oo t.text),.int .i64 t.a,.int .i64 t.b,.slice K t.kids.length E] 38))):=Oy _ _;have j:=Hd (I4 (h.next (Oy w (.cells #[.int .i64 t.op,.string (Oo t.sort),.string (Oo t.text),.int .i64 t.a,.int .i64 t.b,.slice K t.kids.length E] 38))) t (.slice K t.kids.length E) (R.o.bl q.o) num hT hl hF hz hts htx hn (fun h12 hk W hW=>hnum h12 hk W ((Bar.of q.o).trans hW)));clear h hz hnum G J;rw[hno]at j;unfold G6 at j ⊢
 go_in
 go_wp2_with fail
 refine j.o.mono ?_;rintro e Y ⟨rfl,ha⟩;have O:=Hd (ha.after q.o);clear ha
 go_wp2_with fail
 refine Jl (v:=.tuple #[.int .i64 0,.int .i64 5]) ?_ rfl ⟨rfl,O.o⟩;simp[results,results81,go_sem]
theorem Lz{tb nT:Nat}(h:BK w kb sb fb gb n S F T vS vF vT (.map (some tb)) g)(htm:Kn w tb nT T)(hne:tb≠gb)(t:Tm)(vk:Value)(hk:IntsAt w vk t.kids)(num:Tm->Bool)(hT:T.length<=1000000)(hF:F.length<=1000)(hz:∀u∈T,u.sort.length<=1048576)(hn:n<=800000000)(hwf:WfT t)
 (hnum:t.op=12->((Ou (Oh (Og S)) t.sort).kind=2∨(Ou (Oh (Og S)) t.sort).kind=3)->∀W,Bar gb w W->Calls prog 141 #[.string (Oo t.sort),.string (Oo t.text)] W fun e w'=>e=.returned (.bool (num t))/\Up W w') (hyes:Nm (Ou (Oh (Og S))) num F (Ox F) T t=true) (r1 r2:Int) (hj:(∃j:Nat,Kd T t=some j/\r1=j/\r2=0)∨(Kd T t=none/\3000<=T.length/\(∃p c,vT=.slice p T.length c)/\r1=0/\r2=4)) :
 Calls prog 81 #[.pointer (some ⟨kb,0,none⟩),G6 t vk] w fun e w'=>e=.returned (.tuple #[.int .i64 r1,.int .i64 r2])/\Ow w w' kb sb fb gb n S F T vS vF vT (.map (some tb)) 60:=by
 have HI:=Hd hk;obtain⟨qk,dk,rfl,c6,c8,-⟩:=hk;have HH:=Hd h;have HB:Hid (Up w (w.alloc (.cells #[.int .i64 t.op,.string (Oo t.sort),.string (Oo t.text),.int .i64 t.a,.int .i64 t.b,.slice qk t.kids.length dk] 38))):=Oy _ _;have K:Hid (Bx (w.alloc (.cells #[.int .i64 t.op,.string (Oo t.sort),.string (Oo t.text),.int .i64 t.a,.int .i64 t.b,.slice qk t.kids.length dk] 38)) w.heap.size [.int .i64 t.op,.string (Oo t.sort),.string (Oo t.text),.int .i64 t.a,.int .i64 t.b,.slice qk t.kids.length dk]):=Oq _ _ _;have a7:=Hd (I4 (h.next (Oy w (.cells #[.int .i64 t.op,.string (Oo t.sort),.string (Oo t.text),.int .i64 t.a,.int .i64 t.b,.slice qk t.kids.length dk] 38))) t (.slice qk t.kids.length dk) (HI.o.bl HB.o) num hT (by have:=hwf.kids;omega) hF hz hwf.sort hwf.text hn (fun h12 hk W hW=>hnum h12 hk W ((Bar.of HB.o).trans hW)));have b8:=Hd (htm.bar (Bar.of (g:=gb) HB.o) hne);have a8:=Hd hwf;have HJ:=Hd hj;clear h hz hnum c6 c8 htm hwf hj;rw[hyes]at a7;unfold G6 at a7 ⊢
 go_in
 go_wp2_with fail
 refine a7.o.mono ?_;rintro e w2 ⟨rfl,n2,g2,hn2,V,q⟩;have E:=q.keep (HH.o.next HB.o).km;have b7:=Hd ((HI.o.bl HB.o).keep E);have b4:=Hd V;have b5:=Hd (b8.o.bar q hne);have Y:Hid (Bar gb w w2):=(Bar.of HB.o).trans q;have a0:=E.cell _ _ (K.o.cell 0);have a1:=E.cell _ _ (K.o.cell 1);have a2:=E.cell _ _ (K.o.cell 2);have a3:=E.cell _ _ (K.o.cell 3);have a4:=E.cell _ _ (K.o.cell 4);have a5:=E.cell _ _ (K.o.cell 5);clear E V q
 go_wp2_with fail
 refine(Mk t (.slice qk t.kids.length dk) w2 b7.o a8.o.kid a8.o.kids).mono ?_;rintro e w3 ⟨rfl,O⟩;have R:=Hd (b4.o.next O);have Z:Hid (Bar gb w w3):=Y.o.trans (Bar.of O);obtain⟨c,hc,G⟩:=By (w:=(w3.alloc (.cells #[.int .i64 t.op,.string (Oo t.sort),.string (Oo t.text),.int .i64 t.a,.int .i64 t.b,.string (Oo (U3 t.kids))] 110)).drew) ((((b5.o.bar (Bar.of (g:=gb) O) hne).bar (Bar.of (g:=gb) (Oy w3 _)) hne)).bar (Bar.refl gb _).drew hne) a8.o;unfold Ci at G;have b0:=(R.o.next (Oy w3 (.cells #[.int .i64 t.op,.string (Oo t.sort),.string (Oo t.text),.int .i64 t.a,.int .i64 t.b,.string (Oo (U3 t.kids))] 110))).box.c7;have a5:=b0.2.2.2.2.2.1;have a6:=b0.2.2.1;have b6:=Oq w3 [.int .i64 t.op,.string (Oo t.sort),.string (Oo t.text),.int .i64 t.a,.int .i64 t.b,.string (Oo (U3 t.kids))] 110;obtain⟨k0,k1,k2,k3,k4,k5⟩:=b6.k6;have J:Hid (Ow w (w3.alloc (.cells #[.int .i64 t.op,.string (Oo t.sort),.string (Oo t.text),.int .i64 t.a,.int .i64 t.b,.string (Oo (U3 t.kids))] 110)).drew kb sb fb gb n S F T vS vF vT (.map (some tb)) 60):=⟨n2,g2,hn2,R.o.next (Oy _ _).drew,(Z.o.trans (Bar.of (Oy _ _))).drew⟩;clear O b0 a0 a1 a2 a3 a4 b6
 go_wp2_with fail
 generalize w3.alloc (.cells #[.int .i64 t.op,.string (Oo t.sort),.string (Oo t.text),.int .i64 t.a,.int .i64 t.b,.string (Oo (U3 t.kids))] 110)=W4 at G a5 a6 k0 k1 k2 k3 k4 k5 J ⊢
 rcases HJ.o with⟨j,hj,rfl,rfl⟩|⟨hj,d1,⟨pT,cT,rfl⟩,rfl,rfl⟩
 ·obtain rfl:=hc j hj;rw[hj]at G;simp only[Option.isSome_some]at G;clear hc hj
  go_region
  clear G
  go_wp2_with fail
  refine Jl (v:=.tuple #[.int .i64 (j:Nat),.int .i64 0]) ?_ rfl ⟨rfl,J.o⟩;simp[results,results81,go_sem]
 have y3:decide ((3000:Int)<=(T.length:Int))=true:=Jb (by omega);rw[hj]at G;simp only[Vy]at G;clear hc hj
 go_region
 clear G
 go_wp2_with fail
 refine Jl (v:=.tuple #[.int .i64 0,.int .i64 4]) ?_ rfl ⟨rfl,J.o⟩;simp[results,results81,go_sem]
theorem Ng{α:Type}{c:α->List Value}{k:Nat}(hc:∀x,(c x).length=k):∀(l:List α) (i d:Nat) (h:i<l.length) (_:d<k),(l.flatMap c)[i*k+d]? = (c l[i])[d]?
 | [],_,_,h,_=>by simp at h
 | x::r,0,d,_,hd=>by rw[Zs,Nat.zero_mul,Nat.zero_add,List.getElem?_append_left (by rw[hc];exact hd)];rfl
 | x::r,i+1,d,h,hd=>by
   rw[Zs,List.getElem?_append_right (by rw[hc,Nat.succ_mul];omega)]
   have:(i+1)*k+d - (c x).length=i*k+d:=by rw[hc,Nat.succ_mul];omega
   rw[this,Ng hc r i d (by simpa using h) hd];rfl
theorem Ey{base g cap:Nat}{e:TypeId}(h:w.ownsRow base e size (.slice (some ⟨g,0,none⟩) n cap) n xs){j:Nat}{u:Value}(hu:xs[j]? = some u):w.cell? ⟨g,j,none⟩=some u:=by
 rcases h.2 with⟨E,_⟩|⟨K,q,cur,J,_,hb,_,_,_,G⟩
 ·cases E
 cases J;rw[cell_of_row w g j cur e (0,0) hb];rw[<-G,List.getElem?_take]at hu
 split at hu
 ·simpa using hu
 cases hu
theorem Kp{base:Nat}{e:TypeId}(h:w.ownsRow base e size v n xs):∃p c,v=.slice p n c/\n<=c/\c<=maxLen/\(n=0∨∃g,p=some ⟨g,0,none⟩/\g<w.heap.size):=by
 have hl:=h.lt
 rcases h.2 with⟨rfl,rfl⟩|⟨g,j,cur,rfl,_,_,q,E,_⟩
 ·exact⟨none,0,rfl,leR,Jp _,.inl rfl⟩
 exact⟨some ⟨g,0,none⟩,j,rfl,q,E,.inr ⟨g,rfl,(hl g rfl).2⟩⟩
theorem Rl{base:Nat}{L:List (List UInt8)}(h:w.ownsRow base 9 1 v L.length (strsC L)):O4 w v L:=by
 obtain⟨p,c,rfl,q,E,j⟩:=Kp h;refine⟨p,c,rfl,q,E,?_⟩
 rcases j with j|⟨g,rfl,G⟩
 ·exact .inl (Jt j)
 exact .inr ⟨g,rfl,G,fun i hi=>Ey h (by unfold strsC;rw[Yt,Jg hi];rfl)⟩
theorem ints_at{base:Nat}{L:List Int}(h:w.ownsRow base 3 1 v L.length (Uq L)):IntsAt w v L:=by
 obtain⟨p,c,rfl,q,E,j⟩:=Kp h;refine⟨p,c,rfl,q,E,?_⟩
 rcases j with j|⟨g,rfl,G⟩
 ·exact .inl (Jt j)
 exact .inr ⟨g,rfl,G,fun i hi=>Ey h (by unfold Uq;rw[Yt,Jg hi];rfl)⟩
def funC(x:Fn×Value):List Value:=[.string (Oo x.1.name),x.2,.string (Oo x.1.sort)]
def O5(x:Tm×Value):List Value:=[.int .i64 x.1.op,.string (Oo x.1.sort),.string (Oo x.1.text),.int .i64 x.1.a,.int .i64 x.1.b,x.2]
def E6{α:Type}(x y:α×Value):Prop:=∀b,x.2.ownBlock=some b->y.2.ownBlock≠some b
def K4(w:World)(base:Nat)(v:Value)(F:List Fn):Prop:=∃X:List (Fn×Value),X.map Prod.fst=F/\w.ownsRow base 75 3 v F.length (X.flatMap funC)/\(∀x∈X,w.ownsRow base 9 1 x.2 x.1.args.length (strsC x.1.args))/\X.Pairwise E6
def Kz(w:World)(base:Nat)(v:Value)(T:List Tm):Prop:=∃X:List (Tm×Value),X.map Prod.fst=T/\w.ownsRow base 38 6 v T.length (X.flatMap O5)/\(∀x∈X,w.ownsRow base 3 1 x.2 x.1.kids.length (Uq x.1.kids))/\X.Pairwise E6
theorem K4.at{base:Nat}(h:K4 w base v F):Em w v F:=by
 obtain⟨X,rfl,h,K,-⟩:=h;obtain⟨p,c,rfl,G,J,q⟩:=Kp h;refine⟨p,c,rfl,G,J,?_⟩
 rcases q with q|⟨g,rfl,O⟩
 ·exact .inl (Jt q)
 refine .inr ⟨g,rfl,O,fun i hi=>?_⟩;have j:i<X.length:=by simpa using hi
 have E:∀d (u:Value),d<3->(funC X[i])[d]? = some u->w.cell? ⟨g,i*3+d,none⟩=some u:=fun d u hd hu=>Ey h (by rw[Ng (k:=3) (fun _=>rfl) X i d j hd];exact hu);rw[Yh];exact⟨E 0 _ (by decide) rfl,⟨_,E 1 _ (by decide) rfl,Rl (K _ (Jj j))⟩,E 2 _ (by decide) rfl⟩
theorem Kz.at{base:Nat}(h:Kz w base v T):TermsAt w v T:=by
 obtain⟨X,rfl,h,K,-⟩:=h;obtain⟨p,c,rfl,G,J,E⟩:=Kp h;refine⟨p,c,rfl,G,J,?_⟩
 rcases E with E|⟨g,rfl,O⟩
 ·exact .inl (Jt E)
 refine .inr ⟨g,rfl,O,fun i hi=>?_⟩;have q:i<X.length:=by simpa using hi
 have j:∀d (u:Value),d<6->(O5 X[i])[d]? = some u->w.cell? ⟨g,i*6+d,none⟩=some u:=fun d u hd hu=>Ey h (by rw[Ng (k:=6) (fun _=>rfl) X i d q hd];exact hu);rw[Yh];exact⟨j 0 _ (by decide) rfl,j 1 _ (by decide) rfl,j 2 _ (by decide) rfl,j 3 _ (by decide) rfl,j 4 _ (by decide) rfl,_,j 5 _ (by decide) rfl,ints_at (K _ (Jj q))⟩
theorem K4.keep{base:Nat}(h:K4 w base v F)(hk:∀g cs fz,(w.heap[g]? = some (.cells cs 75 fz)∨w.heap[g]? = some (.cells cs 9 fz))->base<=g->w'.heap[g]? = w.heap[g]?):K4 w' base v F:=by
 obtain⟨X,e,j,q,hp⟩:=h;refine⟨X,e,own_other' j fun g hg=>?_,fun x hx=>own_other' (q x hx) fun g hg=>?_,hp⟩
 ·obtain⟨cs,fz,hb⟩:=Ob j g hg;exact hk g cs fz (.inl hb) (Oe j g hg)
 obtain⟨cs,fz,hb⟩:=Ob (q x hx) g hg;exact hk g cs fz (.inr hb) (Oe (q x hx) g hg)
theorem Kz.keep{base:Nat}(h:Kz w base v T)(hk:∀g cs fz,(w.heap[g]? = some (.cells cs 38 fz)∨w.heap[g]? = some (.cells cs 3 fz))->base<=g->w'.heap[g]? = w.heap[g]?):Kz w' base v T:=by
 obtain⟨X,e,j,q,hp⟩:=h;refine⟨X,e,own_other' j fun g hg=>?_,fun x hx=>own_other' (q x hx) fun g hg=>?_,hp⟩
 ·obtain⟨cs,fz,hb⟩:=Ob j g hg;exact hk g cs fz (.inl hb) (Oe j g hg)
 obtain⟨cs,fz,hb⟩:=Ob (q x hx) g hg;exact hk g cs fz (.inr hb) (Oe (q x hx) g hg)
theorem ED:(prog.info? 75).map (fun i=>(i.zero,i.size,i.bytes))=some (some (.agg #[.string ⟨#[]⟩,.slice none 0 0,.string ⟨#[]⟩]),3,56):=by kernel_rfl
theorem Ss:∃i:TypeInfo,prog.info? 75=some i/\i.zero=some (.agg #[.string ⟨#[]⟩,.slice none 0 0,.string ⟨#[]⟩])/\i.size=3/\i.bytes=56:=info_parts ED
theorem info_term0:(prog.info? 38).map (fun i=>(i.zero,i.size,i.bytes))=some (some (.agg #[.int .i64 0,.string ⟨#[]⟩,.string ⟨#[]⟩,.int .i64 0,.int .i64 0,.slice none 0 0]),6,80):=by kernel_rfl
theorem X8:∃i:TypeInfo,prog.info? 38=some i/\i.zero=some (.agg #[.int .i64 0,.string ⟨#[]⟩,.string ⟨#[]⟩,.int .i64 0,.int .i64 0,.slice none 0 0])/\i.size=6/\i.bytes=80:=info_parts info_term0
theorem M5{ops:Array Oper}{o:Oper}{a:Act}{K:Act->World->Prop}{Q:Exit->Act->World->Prop}{E:Prop}{W:World}{B base n:Nat}{v:Value}{xs:List Value}{x:Tm×Value}{fr:Nat×Nat}(hgd:o.guard=none)(s y:Operand)
 (ho:o.op=.call { callee:=.builtin .append,args:=#[s,y],argTypes:=#[25,25] }) (hs:a.eval s=v) (hown:W.ownsRow base 38 6 v n xs) (hone:x.2.oneCell'=true)
 (hx:a.eval y=.slice (some ⟨B,0,none⟩) 1 1) (hB:W.heap[B]? = some (.cells (O5 x).toArray 38 fr)) (hn:n<=1000000000) (hbase:base<=W.heap.size)
 (h:∀g cap W',W'.ownsRow base 38 6 (.slice (some ⟨g,0,none⟩) (n+1) cap) (n+1) (xs++O5 x)->W.grownBy W' v.ownBlock->(v.ownBlock=some g∨g=W.heap.size)->K (a.put o.dst (.slice (some ⟨g,0,none⟩) (n+1) cap)) W') :
 if Region.wanted o (yielded ops a.tmps)=true then Oper.wp prog o a W K Q else E:=by
 obtain⟨i0,j,q,G,J⟩:=X8;refine step_append_lies _ hgd s y 25 ho base 38 i0 _ 6 80 underlying25 j q G J rfl (by decide) v n xs hs hown ⟨B,0,none⟩ 1 1 (O5 x) hx rfl
  (World.news_of_block hB) (fun u hu=>by simp only[O5,Ym,Yi,or_false]at hu;rcases hu with rfl|rfl|rfl|rfl|rfl|rfl<;>first|exact hone|rfl) (by decide) (by unfold maxLen;omega) (by omega) hbase _ rfl ?_
 intro g cap W' O R V _;exact h g cap W' O R V
theorem YN(X:SI)(w:World)(h6:X.kind=6):Calls prog 121 #[Gu X] w fun e w'=>e=.returned (.bool (Of X))/\Up w w':=by
 have j:Hid (Of X=false):=by
  unfold Hid Of;rw[Yb];intro h;rw[Jw,Jv,Jv]at h;omega
 unfold Gu;have z0:(X.kind==0)=false:=by rw[Jc];omega
 have q:=Un (a:=X.kind) (b:=1) (by omega);have E:=U4 h6;clear h6
 go_in
 go_wp2
 go_ret
 exact⟨Oz j.o.symm,Oy _ _⟩
theorem S2(own:List UInt8->Bool)(t:List UInt8)(w:World):Calls prog 121 #[Gu (Ou own t)] w fun e w'=>e=.returned (.bool (Of (Ou own t)))/\Up w w':=by
 have E:=I1 own t
 by_cases h:(Ou own t).kind=0
 ·have q:=(ZR own).w0 t (by omega);have j:=(ZR own).a0 t (by omega);have e:Ou own t=SI.none:=by
   cases hx:Ou own t with
   | mk k w i el=>
     rw[hx]at h q j;simp only at h q j;rw[h,q,j.1,j.2];rfl
  rw[e];exact Pl w
 by_cases h6:(Ou own t).kind=6
 ·exact YN _ w h6
 exact Pm _ w h (by omega)
theorem I7(h:BK w kb sb fb gb n S F T vS vF vT v5 g)(f:Fn)(va:Value)(hva:O4 w va f.args)(hz:∀a∈f.args,a.length<=1048576)(hzs:f.sort.length<=1048576)(hn:n<=900000000) :
 Calls prog 101 #[.pointer (some ⟨kb,0,none⟩),.agg #[.string (Oo f.name),va,.string (Oo f.sort)]] w fun e w'=>e=.returned (.bool (Ub (Oh (Og S)) f))/\Ow w w' kb sb fb gb n S F T vS vF vT v5 6:=by
 have f5:=Hd hva;obtain⟨p,c,rfl,h1,h2,h3⟩:=hva;have HA:=Hd h3;have HZ:=Hd hz;have HH:=Hd h;unfold maxLen at h2;clear h h3 hz;have e4:(Oo f.sort).size<=1048576:=by show f.sort.toArray.size<=_;simpa using hzs
 have HB:Hid (Up w (w.alloc (.cells #[.string (Oo f.name),.slice p f.args.length c,.string (Oo f.sort)] 75))):=Oy _ _;have a8:Hid (Bx (w.alloc (.cells #[.string (Oo f.name),.slice p f.args.length c,.string (Oo f.sort)] 75)) w.heap.size [.string (Oo f.name),.slice p f.args.length c,.string (Oo f.sort)]):=Oq _ _ _
 by_cases h5:5<f.args.length
 ·have G:Hid (Ub (Oh (Og S)) f=false):=by unfold Hid Ub;rw[Jd (by omega)];rfl
  go_in
  go_wp2
  go_ret
  exact⟨Oz G.o.symm,Ow.of HH.o HB.o 6⟩
 have HF:Hid (Ub (Oh (Og S)) f=(f.args.all (fun a=>Of (Ou (Oh (Og S)) a))&&(decide ((Ou (Oh (Og S)) f.sort).kind≠0)&&(decide ((Ou (Oh (Og S)) f.sort).kind≠6)||decide (f.args.length=0))))):=by
  unfold Hid Ub;rw[Jb (by omega),Yz,Vz]
 go_in
 go_wp2_with fail
 obtain⟨W1,d2⟩:=O2 (w.alloc (.cells #[.string (Oo f.name),.slice p f.args.length c,.string (Oo f.sort)] 75));rw[d2]at HB a8 ⊢;clear d2;have d1:Hid (∀W,Bar gb W1 W->W.cell? ⟨w.heap.size,0,none⟩=some (.string (Oo f.name))/\W.cell? ⟨w.heap.size,1,none⟩=some (.slice p f.args.length c)/\W.cell? ⟨w.heap.size,2,none⟩=some (.string (Oo f.sort))):=fun W hW=>by
  have hk:=hW.keep (HH.o.next HB.o).km;exact⟨hk.cell _ _ (a8.o.cell 0),hk.cell _ _ (a8.o.cell 1),hk.cell _ _ (a8.o.cell 2)⟩
 go_loopw [15] (fun i wr=>∃k:Nat,k<=f.args.length/\i=.int .i64 (k:Nat)/\(∀j (h:j<f.args.length),j<k->Of (Ou (Oh (Og S)) f.args[j])=true)/\∃nr gr,nr<=n+k/\BK wr kb sb fb gb nr S F T vS vF vT v5 gr/\Bar gb W1 wr) (fun i _=>f.args.length - (intOf i).toNat)
 case atStart=>exact⟨0,Jp _,rfl,fun j _ h=>absurd h (Jz _),n,g,by omega,HH.o.next HB.o,Bar.refl _ _⟩
 obtain⟨k,hk,rfl,hp,nr,gr,d4,b7,J⟩:=hrel;have HP:=Hd hp;have O:=Hd d4;have b6:=Hd b7;have E:=Hd J;obtain⟨b0,b1,b2⟩:=d1.o wr J;clear hp d4 b7 J
 by_cases Z:k<f.args.length
 ·have b9:wr.cell? ⟨(match p with|some a=>a.block|none=>0),k,none⟩=some (.string (Oo f.args[k]))/\∃b,p=some ⟨b,0,none⟩:=by
   rcases HA.o with e0|⟨b,rfl,hb,b9⟩
   ·rw[e0]at Z;cases Z
   refine⟨?_,b,rfl⟩;have h1:=(HB.o.cell (p:=⟨b,k,none⟩) hb).trans (b9 k Z);exact(E.o.keep (HH.o.next HB.o).km).cell _ _ h1
  obtain⟨ck,b,rfl⟩:=b9;simp only at ck;have d5:(Oo f.args[k]).size<=1048576:=by
   have:=HZ.o _ (Jj Z)
   show f.args[k].toArray.size<=_
   simpa using this
  have b8:Hid (Of (Ou (Oh (Og S)) f.args[k])=false->Ub (Oh (Og S)) f=false):=fun h=>by
   rw[HF.o];have:f.args.all (fun a=>Of (Ou (Oh (Og S)) a))=false:=by
    rw[Yb];intro h2;have:=Jx.1 h2 _ (Jj Z);rw[h]at this
    cases this
   rw[this];rfl
  have R:Hid (Of (Ou (Oh (Og S)) f.args[k])=true->∀j (h:j<f.args.length),j<k+1->Of (Ou (Oh (Og S)) f.args[j])=true):=fun h j hj h2=>by
   rcases J4.1 h2 with h3|rfl
   ·exact HP.o j hj h3
   exact h
  generalize f.args[k]=ak at ck d5 b8 R;have i0:(0:Int)<=(k:Int):=by omega
  have i1:(k:Int)<(f.args.length:Int):=by omega
  go_wp2_with fail
  refine(ask_sort b6.o (Oo ak) d5 (by have:=O.o;omega)).mono ?_;rw[Ov];obtain⟨X,hX⟩:=O2 (Ou (Oh (Og S)) ak);have d8:Hid (∀W,Calls prog 121 #[Gu X] W fun e w'=>e=.returned (.bool (Of X))/\Up W w'):=fun W=>by rw[<-hX];exact S2 _ _ W
  rw[hX]at b8 R ⊢;clear hX;rintro e w2 ⟨rfl,V⟩;have c8:=Hd V;clear V
  go_wp2_with fail
  refine(d8.o w2).mono ?_
  cases b3:Of X
  ·have G:=Hd (b8.o b3);clear b3;rintro e w3 ⟨rfl,Y⟩;have q:Hid (Ow w w3 kb sb fb gb n S F T vS vF vT v5 6):=(Ow.comp (m2:=k) (by have:=O.o;omega) ((Bar.of HB.o).trans E.o) (c8.o.next Y)).more (by omega);clear Y
   go_wp2
   go_ret
   exact⟨Oz G.o.symm,q.o⟩
  have HR:=Hd (R.o b3);clear b3;rintro e w3 ⟨rfl,Y⟩;have d9:Hid (∃nr gr,nr<=n+(k+1)/\BK w3 kb sb fb gb nr S F T vS vF vT v5 gr/\Bar gb W1 w3):=by
   obtain⟨n',g',h1,h2,h3⟩:=c8.o.next Y;have:=O.o;exact⟨n',g',by omega,h2,E.o.trans h3⟩
  clear Y
  go_wp2
  go_roundw
  case rel=>exact⟨k+1,by omega,by go_num,HR.o,d9.o⟩
  simp[intOf];omega
 have d0:Hid (f.args.all (fun a=>Of (Ou (Oh (Og S)) a))=true):=by
  unfold Hid;rw[Jx];intro a ha;obtain⟨j,hj,rfl⟩:=Ya ha;exact HP.o j hj (by omega)
 have z:¬ (k:Int)<(f.args.length:Int):=by omega
 go_wp2_with fail
 refine(ask_sort b6.o (Oo f.sort) e4 (by have:=O.o;omega)).mono ?_;rw[Ov];have K:Hid (Ub (Oh (Og S)) f=(decide ((Ou (Oh (Og S)) f.sort).kind≠0)&&(decide ((Ou (Oh (Og S)) f.sort).kind≠6)||decide (f.args.length=0)))):=by unfold Hid;rw[HF.o,d0.o];rfl
 generalize Ou (Oh (Og S)) f.sort=X at K ⊢;rintro e w2 ⟨rfl,V⟩;have q:Hid (∀W,Up w2 W->Ow w W kb sb fb gb n S F T vS vF vT v5 6):=fun W hW=>(Ow.comp (m2:=k) (by have:=O.o;omega) ((Bar.of HB.o).trans E.o) (V.next hW)).more (by omega);obtain⟨n7,g7,-,-,d3⟩:=V;obtain⟨b0,b1,b2⟩:=d1.o w2 (E.o.trans d3);have g4:w.heap.size<w2.heap.size:=J3 _ _ b0;have f8:Hid (Bx (w2.alloc (.cells #[.int .i64 X.kind,.int .i64 (X.width:Nat),.string (Oo X.index),.string (Oo X.elem)] 145)) w2.heap.size (IP X)):=Oq _ _ _;have a7:Hid (Up w2 (w2.alloc (.cells #[.int .i64 X.kind,.int .i64 (X.width:Nat),.string (Oo X.index),.string (Oo X.elem)] 145))):=Oy _ _;clear d3;unfold Gu
 by_cases k0:X.kind=0
 ·have y0:=U4 k0;have G:Hid (Ub (Oh (Og S)) f=false):=by unfold Hid;rw[K.o,Jd (fun h=>h k0)];rfl
  clear k0
  go_wp2
  go_ret
  exact⟨Oz G.o.symm,q.o _ a7.o⟩
 have y0:=Un k0
 by_cases kn:f.args.length=0
 ·have yn:((f.args.length:Int)==0)=true:=by rw[J2];omega
  have G:Hid (Ub (Oh (Og S)) f=true):=by unfold Hid;rw[K.o,Jb k0,Jb kn];simp
  clear k0
  go_wp2
  go_ret
  exact⟨Oz G.o.symm,q.o _ a7.o⟩
 have yn:((f.args.length:Int)==0)=false:=by rw[Jc];omega
 by_cases k6:X.kind=6
 ·have y6:=U4 k6;have G:Hid (Ub (Oh (Og S)) f=false):=by unfold Hid;rw[K.o,Jb k0,Jd (fun h=>h k6),Jd kn];rfl
  clear k0 k6
  go_wp2
  go_ret
  exact⟨Oz G.o.symm,q.o _ a7.o⟩
 have y6:=Un k6;have G:Hid (Ub (Oh (Og S)) f=true):=by unfold Hid;rw[K.o,Jb k0,Jb k6];rfl
 clear k0 k6
 go_wp2
 go_ret
 exact⟨Oz G.o.symm,q.o _ a7.o⟩
theorem Aw(kb sb fb:Nat)(f1 f2:List UInt8->Option Nat)(s:ByteArray)(w:World)(hc3:w.cell? ⟨kb,3,none⟩=some (.map (some sb)))(hc4:w.cell? ⟨kb,4,none⟩=some (.map (some fb)))(hm1:Gk w sb f1)(hm2:Gk w fb f2)(hs:s.size<=1048576)(hf:Eb f1 f2 s.data.toList=true) :
 Calls prog 79 #[.pointer (some ⟨kb,0,none⟩),.string s] w fun e w'=>e=.returned (.tuple #[.int .i64 0,.int .i64 2])/\w'=w:=by
 have j:=Hd (Nv kb sb fb f1 f2 s w hc3 hc4 hm1 hm2 hs);have h:Hid (Gj f1 f2 s.data.toList=2):=by unfold Hid Gj;rw[hf];rfl
 clear hm1 hm2 hf
 go_in
 go_wp2_with fail
 refine j.o.mono ?_;rw[h.o];rintro e w1 ⟨rfl,rfl⟩
 go_wp2_with fail
 refine Jl (v:=.tuple #[.int .i64 0,.int .i64 2]) ?_ rfl ⟨rfl,rfl⟩;simp[results,results79,go_sem]
theorem As(h:BK w kb sb fb gb n S F T vS vF vT v5 g)(f:Fn)(va:Value)(hzn:f.name.length<=1048576)(hf:Eb (Og S) (Ox F) f.name=true) :
 Calls prog 80 #[.pointer (some ⟨kb,0,none⟩),.agg #[.string (Oo f.name),va,.string (Oo f.sort)]] w fun e w'=>e=.returned (.tuple #[.int .i64 0,.int .i64 2])/\Up w w':=by
 have E:(Oo f.name).size<=1048576:=by show f.name.toArray.size<=_;simpa using hzn
 have j:=Hd (h.next (Oy w (.cells #[.string (Oo f.name),va,.string (Oo f.sort)] 75)));have G:Hid (Up w (w.alloc (.cells #[.string (Oo f.name),va,.string (Oo f.sort)] 75))):=Oy _ _;have q:Hid (Gj (Og S) (Ox F) f.name=2):=by unfold Hid Gj;rw[hf];rfl
 clear h hf
 go_in
 go_wp2_with fail
 refine(Nv kb sb fb (Og S) (Ox F) (Oo f.name) _ j.o.box.c7.2.2.2.1 j.o.box.c7.2.2.2.2.1 j.o.sm j.o.fm E).mono ?_;rw[Ov,q.o];rintro e w1 ⟨rfl,rfl⟩
 go_wp2_with fail
 refine Jl (v:=.tuple #[.int .i64 0,.int .i64 2]) ?_ rfl ⟨rfl,G.o⟩;simp[results,results80,go_sem]
theorem At(h:BK w kb sb fb gb n S F T vS vF vT v5 g)(f:Fn)(va:Value)(hva:O4 w va f.args)(hzn:f.name.length<=1048576)(hz:∀a∈f.args,a.length<=1048576)(hzs:f.sort.length<=1048576)(hn:n<=900000000)(hf:Eb (Og S) (Ox F) f.name=false)(hno:Ub (Oh (Og S)) f=false) :
 Calls prog 80 #[.pointer (some ⟨kb,0,none⟩),.agg #[.string (Oo f.name),va,.string (Oo f.sort)]] w fun e w'=>e=.returned (.tuple #[.int .i64 0,.int .i64 3])/\Ow w w' kb sb fb gb n S F T vS vF vT v5 6:=by
 have J:(Oo f.name).size<=1048576:=by show f.name.toArray.size<=_;simpa using hzn
 have G:=Hd hva;obtain⟨R,O,rfl,-,-,-⟩:=hva;have q:=Hd (h.next (Oy w (.cells #[.string (Oo f.name),.slice R f.args.length O,.string (Oo f.sort)] 75)));have K:Hid (Up w (w.alloc (.cells #[.string (Oo f.name),.slice R f.args.length O,.string (Oo f.sort)] 75))):=Oy _ _;have E:Hid (Gj (Og S) (Ox F) f.name=0):=by unfold Hid Gj;rw[hf];rfl
 have j:=Hd (I7 q.o f _ (G.o.bl K.o) hz hzs hn);rw[hno]at j;clear h hf hno
 go_in
 go_wp2_with fail
 refine(Nv kb sb fb (Og S) (Ox F) (Oo f.name) _ q.o.box.c7.2.2.2.1 q.o.box.c7.2.2.2.2.1 q.o.sm q.o.fm J).mono ?_;rw[Ov,E.o];rintro e w1 ⟨rfl,rfl⟩
 go_wp2_with fail
 refine j.o.mono ?_;rintro e Y ⟨rfl,ha⟩;have V:=Hd (ha.after K.o);clear ha
 go_wp2_with fail
 refine Jl (v:=.tuple #[.int .i64 0,.int .i64 3]) ?_ rfl ⟨rfl,V.o⟩;simp[results,results80,go_sem]
theorem X7(F:List Fn):Ox F=Og (F.map Fn.name):=by
 funext n
 unfold Ox Og;rw[List.findIdx?_map];rfl
theorem Ue.at_heap{f:List UInt8->Option Nat}(h:Ue w b n f)(e:w'.heap[b]? = w.heap[b]?):Ue w' b n f:=by
 obtain⟨D,⟨j,cl,hm,E⟩,q⟩:=h;exact⟨D,⟨j,cl,e.trans hm,E⟩,q⟩
theorem Ue.lt{f:List UInt8->Option Nat}(h:Ue w b n f):b<w.heap.size:=by
 obtain⟨D,⟨j,cl,hm,E⟩,q⟩:=h;exact(Jo.1 hm).1
theorem KM.at_heap(h:KM w b n g)(e:w'.heap[b]? = w.heap[b]?):KM w' b n g:=by
 obtain⟨D,⟨j,cl,hm,E⟩,q⟩:=h;exact⟨D,⟨j,cl,e.trans hm,E⟩,q⟩
theorem Gb{base:Nat}{f:List UInt8->Option Nat}(h:w.ownsRow base e size v n xs)(hm:Ue w b m f):v.ownBlock≠some b:=fun e'=>by
 obtain⟨cs,fz,q⟩:=Ob h b e'
 obtain⟨D,⟨E,cl,j,_⟩,_⟩:=hm
 rw[q]at j
 cases j
theorem R8{base:Nat}(h:w.ownsRow base e size v n xs)(hm:KM w b m g):v.ownBlock≠some b:=fun e'=>by
 obtain⟨cs,fz,q⟩:=Ob h b e'
 obtain⟨D,⟨E,cl,j,_⟩,_⟩:=hm
 rw[q]at j
 cases j
structure AddedF(base kb sb fb gb n m:Nat)(S:List (List UInt8))(F:List Fn)(f:Fn)(vS vF vT v5:Value)(xs:List Value)(w w':World):Prop where
 row:∃v1 va,Bx w' kb [vS,v1,vT,.map (some sb),.map (some fb),v5,.map (some gb)]/\w'.ownsRow base 75 3 v1 (F.length+1) (xs++funC (f,va))/\w'.ownsRow w.heap.size 9 1 va f.args.length (strsC f.args)/\v1.ownBlock≠some kb
 names:Ue w' fb (m+1) (Ox (F++[f]))
 kinds:∃n' g',n'<=n+6/\KM w' gb n' g'/\VT (Og S) g'
 os:w'.os=w.os
 tape:w'.tape=w.tape
 output:w'.output=w.output
 size:w.heap.size<=w'.heap.size
 block:∀k,k<w.heap.size->k≠kb->k≠fb->k≠gb->vF.ownBlock≠some k->w'.heap[k]? = w.heap[k]?
theorem KV{p0:Option Addr}{c0:Nat}(h:BK w kb sb fb gb n S F T (.slice p0 S.length c0) vF vT v5 g)(base m:Nat)(xs:List Value)
 (hrow:w.ownsRow base 75 3 vF F.length xs) (hrk:vF.ownBlock≠some kb) (hN:Ue w fb m (Ox F)) (hm:m<=1000) (hb:base<=w.heap.size) (f:Fn) (va:Value) (hva:O4 w va f.args) (hl:f.args.length<=5) (hzn:f.name.length<=1048576) (hz:∀a∈f.args,a.length<=1048576) (hzs:f.sort.length<=1048576) (hn:n<=900000000)
 (hf:Eb (Og S) (Ox F) f.name=false) (hok:Ub (Oh (Og S)) f=true) (hfull:S.length+F.length<300) :
 Calls prog 80 #[.pointer (some ⟨kb,0,none⟩),.agg #[.string (Oo f.name),va,.string (Oo f.sort)]] w fun e w'=>e=.returned (.tuple #[.int .i64 (F.length:Nat),.int .i64 0])/\AddedF base kb sb fb gb n m S F f (.slice p0 S.length c0) vF vT v5 xs w w':=by
 have p8:(Oo f.name).size<=1048576:=by show f.name.toArray.size<=_;simpa using hzn
 have j7:=Hd hva;obtain⟨pa,ca,rfl,-,-,-⟩:=hva;obtain⟨q0,Y,rfl⟩:=V6 hrow;have o4:Hid (Ox F f.name=none):=by
  unfold Hid;simp only[Eb,Bool.or_eq_false_iff]at hf
  cases h:Ox F f.name with
  | none=>rfl
  | some i=>rw[h]at hf;simp at hf
 obtain⟨W0,b5⟩:=O2 (w.alloc (.cells #[.string (Oo f.name),.slice pa f.args.length ca,.string (Oo f.sort)] 75));have p1:=Hd b5;have E:Hid (Up w W0):=by unfold Hid;rw[<-b5];exact Oy _ _
 have j6:Hid (W0.heap.size=w.heap.size+1):=by unfold Hid;rw[<-b5];simp
 have g0:Hid (Bx W0 w.heap.size [.string (Oo f.name),.slice pa f.args.length ca,.string (Oo f.sort)]):=by unfold Hid;rw[<-b5];exact Oq w _ _
 have HH:=Hd (h.next E.o);have n8:Hid (Gj (Og S) (Ox F) f.name=0):=by unfold Hid Gj;rw[hf];rfl
 have h9:=Hd (I7 HH.o f _ (j7.o.bl E.o) hz hzs hn);rw[hok]at h9;have HR:=Hd hrow;have o3:=Hd hN;have e8:=Hd h.km.lt;have i7:=Hd h.box.lt;have j0:=Hd h.nf;have n9:Hid (kb≠gb):=S9 h.km (h.box.cell 0);have h8:Hid (fb≠kb):=UA (hN.to hm) h.box;have j5:=Hd (R8 hrow h.km);have j4:=Hd (Gb hrow hN);have d3:=Hd hN.lt;clear b5 h hf hok hrow hN
 go_in
 go_wp2_with fail
 rw[p1.o];refine(Nv kb sb fb (Og S) (Ox F) (Oo f.name) _ HH.o.box.c7.2.2.2.1 HH.o.box.c7.2.2.2.2.1 HH.o.sm HH.o.fm p8).mono ?_;rw[Ov,n8.o];rintro e w1 ⟨rfl,rfl⟩;have q4:=Hd g0.o;obtain⟨b0,b1,b2⟩:=g0.o.c3
 go_wp2_with fail
 refine h9.o.mono ?_;rintro e w1 ⟨rfl,n',g',n0,a7,q⟩;have g8:Bx w1 w.heap.size [.string (Oo f.name),.slice pa f.args.length ca,.string (Oo f.sort)]:=g0.o.bar q (by have:=e8.o;omega);have h1:∀k,k<w.heap.size->k≠gb->w1.heap[k]? = w.heap[k]? := fun k hk hne=>(q.block k (by have:=j6.o;omega) hne).trans (E.o.block k hk);have g5:w1.ownsRow base 75 3 (.slice q0 F.length Y) F.length xs:=own_other' HR.o (fun g hg=>h1 g (HR.o.lt g hg).2 (fun e=>j5.o (hg.trans (congrArg some e))));have g4:Ue w1 fb m (Ox F):=o3.o.at_heap (h1 fb d3.o j0.o);have n1:O4 w1 (.slice pa f.args.length ca) f.args:=(j7.o.bl E.o).keep (q.keep HH.o.km);have V:Hid (w.heap.size+1<=w1.heap.size):=by have:=q.size;have:=j6.o;unfold Hid;omega
 have f5:Hid (w1.os=w.os/\w1.tape=w.tape/\w1.output=w.output):=⟨q.os.trans E.o.os,q.tape.trans E.o.tape,q.output.trans E.o.output⟩;have H1:=Hd h1;have i8:Hid (n'<=n+6/\VT (Og S) g'):=⟨n0,a7.ok⟩;have HC:Hid (∀W,Up w1 W->Bx W kb [.slice p0 S.length c0,.slice q0 F.length Y,vT,.map (some sb),.map (some fb),v5,.map (some gb)]/\Bx W w.heap.size [.string (Oo f.name),.slice pa f.args.length ca,.string (Oo f.sort)]/\W.ownsRow base 75 3 (.slice q0 F.length Y) F.length xs/\Ue W fb m (Ox F)/\KM W gb n' g'/\O4 W (.slice pa f.args.length ca) f.args):=fun W hW=>
  ⟨a7.box.bl a7.box.lt hW,g8.bl g8.lt hW,own_other' g5 (fun g hg=>hW.block g (g5.lt g hg).2),g4.low hW g4.lt,a7.km.low hW a7.km.lt,n1.bl hW⟩
 clear g8 h1 g5 g4 n1 n0 a7 q b0 b1 b2;obtain⟨hA,hB,-,-,-,-⟩:=HC.o w1 (Ji _ _);obtain⟨a0,a1⟩:=hA.k2;clear hA hB
 go_wp2_with fail
 refine(Qq kb p0 q0 S.length c0 F.length Y _ a0 a1 (by omega) (by omega)).mono ?_;rw[Jd (by omega)];rintro e w2 ⟨rfl,hb2⟩;have e7:=Hd hb2;obtain⟨hA,hB,-,-,-,hV⟩:=HC.o w2 hb2;have o9:=Hd hV;clear a0 a1 hb2 hV;have a1:=hA.cell 1;simp only[Jr,Jy]at a1;obtain⟨b0,b1,b2⟩:=hB.c3;clear hA hB
 go_wp2_with fail
 refine(Sk f _ w2 o9.o hl hzn hzs hz).mono ?_;rintro e w3 ⟨p3,n3,c3,rfl,O,m7⟩;obtain⟨q3,p4,e3⟩:=V6 O;obtain rfl:n3=f.args.length:=by cases e3;rfl
 clear e3 q3 p4;have j1:=Hd (own_lower O e7.o.size);have G:=Hd (e7.o.trans (m7.mono e7.o.size));clear O m7 a1 b0 b1 b2;obtain⟨hA,hB,-,-,-,-⟩:=HC.o w3 G.o;obtain⟨b0,b1,b2⟩:=hB.c3;obtain⟨f0,f1,f2⟩:=hB.f3;obtain⟨J,d7⟩:=O2 (((w3.setCell ⟨w.heap.size,0,none⟩ (.string (Oo f.name))).setCell ⟨w.heap.size,1,none⟩ (.slice p3 f.args.length c3)).setCell ⟨w.heap.size,2,none⟩ (.string (Oo f.sort)));have f9:=Hd d7;have m6:Bx J w.heap.size [.string (Oo f.name),.slice p3 f.args.length c3,.string (Oo f.sort)]:=by rw[<-d7];exact((hB.set 0 _).set 1 _).set 2 _
 have g1:=Hd m6;have h4:∀k,k≠w.heap.size->J.heap[k]? = w3.heap[k]? := fun k hk=>by rw[<-d7,Jh _ _ _ _ hk,Jh _ _ _ _ hk,Jh _ _ _ _ hk]
 have H4:=Hd h4;clear hA hB d7 m6 h4
 go_upto_region 1 with fail
 rw[f9.o];have d4:Hid (kb≠w.heap.size/\fb≠w.heap.size/\gb≠w.heap.size):=by have:=i7.o;have:=d3.o;have:=e8.o;unfold Hid;omega
 obtain⟨k9,-,l9,l5,l2,-⟩:=HC.o w3 G.o;have l0:Bx J kb [.slice p0 S.length c0,.slice q0 F.length Y,vT,.map (some sb),.map (some fb),v5,.map (some gb)]:=by
  obtain⟨ty,hh⟩:=k9;exact⟨ty,(H4.o kb d4.o.1).trans hh⟩
 have m0:J.ownsRow base 75 3 (.slice q0 F.length Y) F.length xs:=own_other' l9 (fun k hk=>H4.o k (fun e=>by have:=(HR.o.lt k hk).2;omega));have p6:Ue J fb m (Ox F):=l5.at_heap (H4.o fb d4.o.2.1);have l3:KM J gb n' g':=l2.at_heap (H4.o gb d4.o.2.2);have l7:J.ownsRow w1.heap.size 9 1 (.slice p3 f.args.length c3) f.args.length (strsC f.args):=own_other' j1.o (fun k hk=>H4.o k (fun e=>by have:=Oe j1.o k hk;have:=V.o;omega));have e6:=Hd l0;have j2:=Hd m0;have i6:=Hd l3;have e9:=Hd l7;have o8:Hid (w1.heap.size<=J.heap.size):=by have:=G.o.size;have e:=f9.o;unfold Hid;rw[<-e];simpa[World.setCell]using this
 have f8:Hid (J.os=w.os/\J.tape=w.tape/\J.output=w.output):=by
  have e:=f9.o;unfold Hid;rw[<-e];exact⟨G.o.os.trans f5.o.1,G.o.tape.trans f5.o.2.1,G.o.output.trans f5.o.2.2⟩
 obtain⟨D,g3,hD⟩:=p6;have n7:=Hd hD;have o0:=Hd g3.isMap;have d9:J.drew.ownsMap prog 9 (plainElem prog 3) fb m D:=by
  obtain⟨es,cl,hh,p7⟩:=g3;exact⟨es,cl,hh,p7⟩
 obtain⟨w5,g7,b8,e5⟩:=d9.update G2 underlying56 (by unfold maxLen;omega) (Eo (Oo f.name) (by unfold maxLen;omega)) (plainElem_int underlying3 (F6 (n:=F.length) (by omega)));have o6:=Hd b8;have b4:=Hd e5;have c4:=e6.o.cell 4;simp only[Jr,Jy]at c4;obtain⟨e0,e1,e2⟩:=g1.o.c3;clear k9 l9 l5 l2 l0 m0 l3 l7 hD g3 d9 b8 e5 b0 b1 b2 f0 f1 f2
 go_region
 clear g7 c4 e0 e1 e2;have K:∀k,k<J.heap.size->k≠fb->w5.heap[k]? = J.heap[k]? := fun k hk hne=>b4.o.block k hk (fun e=>hne (Option.some.inj e));have i1:=Hd K;have d5:Bx w5 kb [.slice p0 S.length c0,.slice q0 F.length Y,vT,.map (some sb),.map (some fb),v5,.map (some gb)]:=by
  have b6:=e6.o.lt;obtain⟨ty,hh⟩:=e6.o;exact⟨ty,(K kb b6 (Ne.symm h8.o)).trans hh⟩
 have d8:Bx w5 w.heap.size [.string (Oo f.name),.slice p3 f.args.length c3,.string (Oo f.sort)]:=by
  have b6:=g1.o.lt;obtain⟨ty,hh⟩:=g1.o;exact⟨ty,(K w.heap.size b6 (Ne.symm d4.o.2.1)).trans hh⟩
 have m5:w5.ownsRow base 75 3 (.slice q0 F.length Y) F.length xs:=own_other' j2.o (fun k hk=>K k (j2.o.lt k hk).2 (fun e=>j4.o (hk.trans (congrArg some e))));have l8:w5.ownsRow w1.heap.size 9 1 (.slice p3 f.args.length c3) f.args.length (strsC f.args):=own_other' e9.o (fun k hk=>K k (e9.o.lt k hk).2 (fun e=>by have:=Oe e9.o k hk;have:=V.o;have:=d3.o;omega));have l4:KM w5 gb n' g':=i6.o.at_heap (K gb i6.o.lt (Ne.symm j0.o));have l6:Ue w5 fb (m+1) (Ox (F++[f])):=by
  rw[X7,Yk];refine Ue.put (L:=F.map Fn.name) (D:=D) (fun s=>?_) o0.o (s:=f.name) ?_ ?_
  ·have:=n7.o s;rw[X7]at this;exact this
  ·have:=o4.o;rw[X7]at this;exact this
  have:=o6.o;rw[Z6];exact this
 obtain⟨Z,hZ⟩:=O2 w5.heap.size;have t7:kb<Z:=by rw[<-hZ];exact d5.lt
 have t8:w.heap.size<Z:=by rw[<-hZ];exact d8.lt
 have r3:base<=Z:=by omega
 have u0:J.heap.size<=Z:=by rw[<-hZ];exact b4.o.size
 have k1:=d5.cell 1;simp only[Jr,Jy]at k1;obtain⟨x0,x1,x2⟩:=d8.c3;obtain⟨i0,m8,p9,q1,q2⟩:=Ss;have o5:Hid (∀i u,(funC (f,.slice p3 f.args.length c3))[i]? = some u->((w5.alloc (.cells #[.string (Oo f.name),.slice p3 f.args.length c3,.string (Oo f.sort)] 75)).drew).cell? ((⟨Z,0,none⟩:Addr).add i)=some u):=by
  have h:=World.news_of_block (cs:=#[.string (Oo f.name),.slice p3 f.args.length c3,.string (Oo f.sort)]) (t:=75) (fr:=(0,0)) (heap_alloc_new w5 (.cells #[.string (Oo f.name),.slice p3 f.args.length c3,.string (Oo f.sort)] 75));rw[hZ]at h;exact h
 have l1:Bx (w5.alloc (.cells #[.string (Oo f.name),.slice p3 f.args.length c3,.string (Oo f.sort)] 75)).drew kb [.slice p0 S.length c0,.slice q0 F.length Y,vT,.map (some sb),.map (some fb),v5,.map (some gb)]:=(d5.alloc _).drew;have c8:=Hd l1;have j3:=Hd m5;have R:=Hd l8;have o1:=Hd l4;have o2:=Hd l6;have r8:=Hd d8;clear l1 m5 l8 l4 l6 d5 d8 K
 go_wp2
 go_region_law
  ((refine step_append_lies _ (by rfl) _ _ _ (by rfl) base 75 i0 _ 3 56 underlying24 m8 p9 q1 q2 rfl (by omega) (.slice q0 F.length Y) F.length xs (by rfl) ((j3.o.alloc _).drew)
     ⟨Z,0,none⟩ 1 1 (funC (f,.slice p3 f.args.length c3)) (by rfl) (by rfl) o5.o (by simp[funC,Value.oneCell'])
     (by omega) (by unfold maxLen;omega) (by omega) (by simp;omega) (Z+1) (by simp;omega) ?_;intro g6 c6 w6 b9 j e4 m9;have d1:=(j.cell_far ⟨kb,1,none⟩ (by simp;omega) (Ne.symm hrk)).trans (c8.o.cell 1);have d2:=(j.frozen_far ⟨kb,1,none⟩ (by simp;omega) (Ne.symm hrk)).trans (c8.o.fz 1);simp only[Jr,Jy]at d1))
 all_goals
  have h6:∀k,k<Z->k≠kb->some k≠(Value.slice q0 F.length Y).ownBlock->(w6.setCell ⟨kb,1,none⟩ (.slice (some ⟨g6,0,none⟩) (F.length+1) c6)).heap[k]? = w5.heap[k]? := fun k hk h1 h2=>by
   rw[Jh _ _ _ _ h1,j.block k (by simp;omega) h2];exact(Oy w5 _).block k (by omega)
  have n2:Bx w6 kb [.slice p0 S.length c0,.slice q0 F.length Y,vT,.map (some sb),.map (some fb),v5,.map (some gb)]:=by
   have b6:=c8.o.lt;obtain⟨ty,hh⟩:=c8.o;exact⟨ty,(j.block kb b6 (Ne.symm hrk)).trans hh⟩
  have b7:g6≠kb:=fun e=>by
   rcases e4 with h|h
   ·exact hrk (h.trans (congrArg some e))
   omega
  have HE:Hid (AddedF base kb sb fb gb n m S F f (.slice p0 S.length c0) (.slice q0 F.length Y) vT v5 xs w (w6.setCell ⟨kb,1,none⟩ (.slice (some ⟨g6,0,none⟩) (F.length+1) c6))):=by
   refine⟨⟨_,.slice p3 f.args.length c3,n2.set 1 _,own_other' b9 (fun k hk=>Jh _ _ _ _ (fun e=>b7 ((Option.some.inj hk).trans e))),?_,fun e=>b7 (Option.some.inj e)⟩,o2.o.at_heap (h6 fb (by have:=d3.o;omega) h8.o (Ne.symm j4.o)),⟨n',g',i8.o.1,o1.o.at_heap (h6 gb (by have:=e8.o;omega) (Ne.symm n9.o) (Ne.symm j5.o)),i8.o.2⟩,?_,?_,?_,?_,?_⟩
   ·refine own_lower (own_other' R.o (fun k hk=>h6 k (by have:=(R.o.lt k hk).2;omega) (fun e=>by have:=Oe R.o k hk;have:=V.o;have:=i7.o;omega) (fun e=>?_))) (by have:=V.o;omega);obtain⟨cs,fz,h1⟩:=Ob R.o k hk;obtain⟨r9,s9,h2⟩:=Ob j3.o k e.symm;rw[h1]at h2;cases h2
   ·exact j.os.trans (b4.o.os.trans f8.o.1)
   ·exact j.tape.trans (b4.o.tape.trans f8.o.2.1)
   ·exact j.output.trans (b4.o.output.trans f8.o.2.2)
   ·have h1:=j.size;have h2:Z<=w6.heap.size:=by simp at h1;omega
    simp only[World.setCell,Zf];omega
   intro k hk h1 h2 h3 h4;rw[h6 k (by omega) h1 (Ne.symm h4),i1.o k (by have:=o8.o;have:=V.o;omega) h2,H4.o k (by omega),G.o.block k (by have:=V.o;omega),H1.o k hk h3]
  clear h6 n2 b7 b9 j e4 m9 d1 d2 k1 x0 x1 x2
  go_wp2_with fail
  refine Jl (v:=.tuple #[.int .i64 (F.length:Nat),.int .i64 0]) ?_ rfl ⟨rfl,HE.o⟩;simp[results,results80,go_sem]
theorem Bx.cs6{W:World}{g:Nat}{a b c d e f:Value}(h:Bx W g [a,b,c,d,e,f]):W.cell? ⟨g,0,none⟩=some a/\W.cell? ⟨g,1,none⟩=some b/\W.cell? ⟨g,2,none⟩=some c/\W.cell? ⟨g,3,none⟩=some d/\W.cell? ⟨g,4,none⟩=some e/\W.cell? ⟨g,5,none⟩=some f:=
 ⟨h.cell 0,h.cell 1,h.cell 2,h.cell 3,h.cell 4,h.cell 5⟩
theorem Kn.at_heap(h:Kn w b n T)(e:w'.heap[b]? = w.heap[b]?):Kn w' b n T:=by
 obtain⟨D,⟨j,cl,hm,E⟩,q⟩:=h;exact⟨D,⟨j,cl,e.trans hm,E⟩,q⟩
theorem Kn.lt(h:Kn w b n T):b<w.heap.size:=by
 obtain⟨D,⟨j,cl,hm,E⟩,q⟩:=h;exact(Jo.1 hm).1
theorem Xb{base:Nat}(h:w.ownsRow base e size v n xs)(hm:Kn w b m T):v.ownBlock≠some b:=fun e'=>by
 obtain⟨cs,fz,q⟩:=Ob h b e'
 obtain⟨D,⟨E,cl,j,_⟩,_⟩:=hm
 rw[q]at j
 cases j
theorem Ax{g:Nat}{l:List Value}(hm:Kn w b m T)(h:Bx w g l):b≠g:=by
 rintro rfl;obtain⟨ty,h⟩:=h;obtain⟨D,⟨q,cl,j,_⟩,_⟩:=hm;rw[h]at j
 cases j
structure AddedT(base kb sb fb gb tb n m:Nat)(S:List (List UInt8))(T:List Tm)(t:Tm)(vS vF vT:Value)(xs:List Value)(w w':World):Prop where
 row:∃v1 va,Bx w' kb [vS,vF,v1,.map (some sb),.map (some fb),.map (some tb),.map (some gb)]/\w'.ownsRow base 38 6 v1 (T.length+1) (xs++O5 (t,va))/\w'.ownsRow w.heap.size 3 1 va t.kids.length (Uq t.kids)/\v1.ownBlock≠some kb
 terms:Kn w' tb (m+1) (T++[t])
 kinds:∃n' g',n'<=n+60/\KM w' gb n' g'/\VT (Og S) g'
 os:w'.os=w.os
 tape:w'.tape=w.tape
 output:w'.output=w.output
 size:w.heap.size<=w'.heap.size
 block:∀k,k<w.heap.size->k≠kb->k≠tb->k≠gb->vT.ownBlock≠some k->w'.heap[k]? = w.heap[k]?
theorem A0{tb nT:Nat}(h:BK w kb sb fb gb n S F T vS vF vT (.map (some tb)) g)(htm:Kn w tb nT T)(hnT:nT<=1000000)(hne:tb≠gb)(base:Nat)(xs:List Value)
 (hrow:w.ownsRow base 38 6 vT T.length xs) (hrk:vT.ownBlock≠some kb) (hb:base<=w.heap.size) (t:Tm) (vk:Value) (hk:IntsAt w vk t.kids) (num:Tm->Bool) (hT:T.length<3000) (hF:F.length<=1000) (hz:∀u∈T,u.sort.length<=1048576) (hn:n<=800000000) (hwf:WfT t)
 (hnum:t.op=12->((Ou (Oh (Og S)) t.sort).kind=2∨(Ou (Oh (Og S)) t.sort).kind=3)->∀W,Bar gb w W->Calls prog 141 #[.string (Oo t.sort),.string (Oo t.text)] W fun e w'=>e=.returned (.bool (num t))/\Up W w') (hyes:Nm (Ou (Oh (Og S))) num F (Ox F) T t=true) (hj:Kd T t=none) :
 Calls prog 81 #[.pointer (some ⟨kb,0,none⟩),G6 t vk] w fun e w'=>e=.returned (.tuple #[.int .i64 (T.length:Nat),.int .i64 0])/\AddedT base kb sb fb gb tb n nT S T t vS vF vT xs w w':=by
 have HI:=Hd hk;obtain⟨qk,dk,rfl,x8,x9,-⟩:=hk;obtain⟨q0,d0,rfl⟩:=V6 hrow;have HH:=Hd h;obtain⟨W0,e5⟩:=O2 (w.alloc (.cells #[.int .i64 t.op,.string (Oo t.sort),.string (Oo t.text),.int .i64 t.a,.int .i64 t.b,.slice qk t.kids.length dk] 38));have s4:=Hd e5;have HB:Hid (Up w W0):=by unfold Hid;rw[<-e5];exact Oy _ _
 have n5:Hid (W0.heap.size=w.heap.size+1):=by unfold Hid;rw[<-e5];simp
 have q6:Hid (Bx W0 w.heap.size [.int .i64 t.op,.string (Oo t.sort),.string (Oo t.text),.int .i64 t.a,.int .i64 t.b,.slice qk t.kids.length dk]):=by unfold Hid;rw[<-e5];exact Oq _ _ _
 have j9:=Hd (I4 (h.next HB.o) t (.slice qk t.kids.length dk) (HI.o.bl HB.o) num (by omega) (by have:=hwf.kids;omega) hF hz hwf.sort hwf.text hn (fun h12 hk W hW=>hnum h12 hk W ((Bar.of HB.o).trans hW)));have s3:=Hd htm;have HR:=Hd hrow;have R:=Hd hwf;have HJ:=Hd hj;have g6:=Hd h.km.lt;have k7:=Hd h.box.lt;have e3:=Hd htm.lt;have q8:Hid (kb≠gb):=S9 h.km (h.box.cell 0);have n7:Hid (tb≠kb):=Ax htm h.box;have n1:=Hd (R8 hrow h.km);have n4:=Hd (Xb hrow htm);clear h hz hnum x8 x9 htm hj e5 hrow;rw[hyes]at j9;unfold G6 at j9 ⊢
 go_in
 go_wp2_with fail
 rw[s4.o];refine j9.o.mono ?_;rintro e w2 ⟨rfl,n2,g2,hn2,e7,q⟩;have p8:=q.keep (HH.o.next HB.o).km;have m5:=Hd ((HI.o.bl HB.o).keep p8);have h1:∀k,k<w.heap.size->k≠gb->w2.heap[k]? = w.heap[k]? := fun k hk hne=>(q.block k (by have:=n5.o;omega) hne).trans (HB.o.block k hk);have H1:=Hd h1;have b7:=Hd e7;have m6:Hid (n2<=n+60/\VT (Og S) g2):=⟨by omega,e7.ok⟩;have i8:=Hd (s3.o.at_heap (h1 tb e3.o hne));have m8:Hid (w2.ownsRow base 38 6 (.slice q0 T.length d0) T.length xs):=own_other' HR.o (fun g hg=>h1 g (HR.o.lt g hg).2 (fun e=>n1.o (hg.trans (congrArg some e))));have e0:Hid (Bx w2 w.heap.size [.int .i64 t.op,.string (Oo t.sort),.string (Oo t.text),.int .i64 t.a,.int .i64 t.b,.slice qk t.kids.length dk]):=q6.o.bar q (by have:=g6.o;omega);have O:Hid (w.heap.size+1<=w2.heap.size):=by have:=q.size;have:=n5.o;unfold Hid;omega
 have l0:Hid (w2.os=w.os/\w2.tape=w.tape/\w2.output=w.output):=⟨q.os.trans HB.o.os,q.tape.trans HB.o.tape,q.output.trans HB.o.output⟩;obtain⟨a0,a1,a2,a3,a4,a5⟩:=e0.o.cs6;clear p8 e7 q h1
 go_wp2_with fail
 refine(Mk t (.slice qk t.kids.length dk) w2 m5.o R.o.kid R.o.kids).mono ?_;rintro e w3 ⟨rfl,h5⟩;have l8:Up w2 (w3.alloc (.cells #[.int .i64 t.op,.string (Oo t.sort),.string (Oo t.text),.int .i64 t.a,.int .i64 t.b,.string (Oo (U3 t.kids))] 110)):=h5.alloc h5.size _;have i7:=Oq w3 [.int .i64 t.op,.string (Oo t.sort),.string (Oo t.text),.int .i64 t.a,.int .i64 t.b,.string (Oo (U3 t.kids))] 110;have u9:w2.heap.size<=w3.heap.size:=h5.size;clear a0 a1 a2 a3 a4 a5 h5
 go_wp2_with fail
 generalize w3.heap.size=E at i7 u9 ⊢;generalize w3.alloc (.cells #[.int .i64 t.op,.string (Oo t.sort),.string (Oo t.text),.int .i64 t.a,.int .i64 t.b,.string (Oo (U3 t.kids))] 110)=W4 at l8 i7 ⊢;have J:=Hd l8;have l3:=Hd i7;have HC:Hid (∀W,Up W4 W->Bx W kb [vS,vF,.slice q0 T.length d0,.map (some sb),.map (some fb),.map (some tb),.map (some gb)]/\Bx W w.heap.size [.int .i64 t.op,.string (Oo t.sort),.string (Oo t.text),.int .i64 t.a,.int .i64 t.b,.slice qk t.kids.length dk]/\Bx W E [.int .i64 t.op,.string (Oo t.sort),.string (Oo t.text),.int .i64 t.a,.int .i64 t.b,.string (Oo (U3 t.kids))]/\W.ownsRow base 38 6 (.slice q0 T.length d0) T.length xs/\Kn W tb nT T/\KM W gb n2 g2/\IntsAt W (.slice qk t.kids.length dk) t.kids):=fun W hW=>by
  have d3:Up w2 W:=J.o.trans (hW.mono J.o.size);exact⟨b7.o.box.bl b7.o.box.lt d3,e0.o.bl e0.o.lt d3,l3.o.bl l3.o.lt hW,own_other' m8.o (fun g hg=>d3.block g (m8.o.lt g hg).2),i8.o.low d3 i8.o.lt,b7.o.km.low d3 b7.o.km.lt,m5.o.bl d3⟩
 obtain⟨hA,hB,hK,-,p4,-,-⟩:=HC.o W4.drew (Ji _ _).drew;obtain⟨c,hc,i6⟩:=By p4 R.o;rw[HJ.o]at i6;simp only[Vy]at i6;unfold Ci at i6;obtain⟨hA,hB,hK,-,-,-,-⟩:=HC.o W4 (Ji _ _);have a5:=hA.c7.2.2.2.2.2.1;have a2:=hA.c7.2.2.1;obtain⟨k0,k1,k2,k3,k4,k5⟩:=hK.cs6;clear hA hB hK p4 hc l8 i7
 go_region
 clear i6 k0 k1 k2 k3 k4 k5;obtain⟨hA,hB,hK,-,-,-,hI⟩:=HC.o W4.drew (Ji _ _).drew;obtain⟨b0,b1,b2,b3,b4,b5⟩:=HC.o W4 (Ji _ _) |>.2.1.cs6;have r3:=Hd hI;clear hA hB hK hI;have z1:decide ((3000:Int)<=(T.length:Int))=false:=dF (by omega)
 go_wp2_with fail
 have j8:=Hd (Bh t (.slice qk t.kids.length dk) W4.drew r3.o (by have:=R.o.kids;omega) R.o.sort R.o.text);unfold G6 at j8;refine j8.o.mono ?_;rintro e w6 ⟨Y,n6,V,rfl,b6,d6⟩;obtain⟨y0,u0,e6⟩:=V6 b6;obtain rfl:n6=t.kids.length:=by cases e6;rfl
 clear e6 y0 u0 j8 a2 a5 b0 b1 b2 b3 b4 b5;have K:Hid (Up W4 w6):=⟨d6.os,d6.tape,d6.output,d6.size,d6.block⟩;have k8:Hid (w6.ownsRow W4.heap.size 3 1 (.slice Y t.kids.length V) t.kids.length (Uq t.kids)):=b6;clear b6 d6;obtain⟨-,hB,-,-,-,-,-⟩:=HC.o w6 K.o;obtain⟨b0,b1,b2,b3,b4,b5⟩:=hB.cs6;obtain⟨f0,f1,f2,f3,f4,f5⟩:=hB.f6;obtain⟨W7,d4⟩:=O2 ((((((w6.setCell ⟨w.heap.size,0,none⟩ (.int .i64 t.op)).setCell ⟨w.heap.size,1,none⟩ (.string (Oo t.sort))).setCell ⟨w.heap.size,2,none⟩ (.string (Oo t.text))).setCell ⟨w.heap.size,3,none⟩ (.int .i64 t.a)).setCell ⟨w.heap.size,4,none⟩ (.int .i64 t.b)).setCell ⟨w.heap.size,5,none⟩ (.slice Y t.kids.length V));have s5:=Hd d4;have n8:Hid (Bx W7 w.heap.size [.int .i64 t.op,.string (Oo t.sort),.string (Oo t.text),.int .i64 t.a,.int .i64 t.b,.slice Y t.kids.length V]):=by unfold Hid;rw[<-d4];exact(((((hB.set 0 (.int .i64 t.op)).set 1 (.string (Oo t.sort))).set 2 (.string (Oo t.text))).set 3 (.int .i64 t.a)).set 4 (.int .i64 t.b)).set 5 (.slice Y t.kids.length V)
 have h7:∀k,k≠w.heap.size->W7.heap[k]? = w6.heap[k]? := fun k hk=>by rw[<-d4,Jh _ _ _ _ hk,Jh _ _ _ _ hk,Jh _ _ _ _ hk,Jh _ _ _ _ hk,Jh _ _ _ _ hk,Jh _ _ _ _ hk]
 have H7:=Hd h7;have s2:Hid (W7.heap.size=w6.heap.size):=by unfold Hid;rw[<-d4];simp[World.setCell]
 have h9:Below w.heap.size w6 W7:=by rw[<-d4];exact((((((Ji w.heap.size w6).setCell (p:=⟨w.heap.size,0,none⟩) leR (.int .i64 t.op)).setCell (p:=⟨w.heap.size,1,none⟩) leR (.string (Oo t.sort))).setCell (p:=⟨w.heap.size,2,none⟩) leR (.string (Oo t.text))).setCell (p:=⟨w.heap.size,3,none⟩) leR (.int .i64 t.a)).setCell (p:=⟨w.heap.size,4,none⟩) leR (.int .i64 t.b)).setCell (p:=⟨w.heap.size,5,none⟩) leR (.slice Y t.kids.length V)
 have l1:Hid (W7.os=w6.os/\W7.tape=w6.tape/\W7.output=w6.output):=⟨h9.os,h9.tape,h9.output⟩;clear h9;clear hB d4 h7
 go_upto_region 1 with fail
 rw[s5.o];clear b0 b1 b2 b3 b4 b5 f0 f1 f2 f3 f4 f5;have e2:Hid (E≠w.heap.size/\kb≠w.heap.size/\tb≠w.heap.size/\gb≠w.heap.size):=by have:=k7.o;have:=e3.o;have:=g6.o;have:=O.o;unfold Hid;omega
 have e4:Bx W7 E [.int .i64 t.op,.string (Oo t.sort),.string (Oo t.text),.int .i64 t.a,.int .i64 t.b,.string (Oo (U3 t.kids))]:=by
  obtain⟨-,-,hK,-,-,-,-⟩:=HC.o w6 K.o;obtain⟨ty,hh⟩:=hK;exact⟨ty,(H7.o E e2.o.1).trans hh⟩
 have r5:=Hd e4;obtain⟨t0,t1,t2,t3,t4,t5⟩:=n8.o.cs6;obtain⟨k0,k1,k2,k3,k4,k5⟩:=e4.cs6;have g1:=e4.fz 1;have g2:=e4.fz 2;clear e4
 go_region
 clear t0 t1 t2 t3 t4 t5 k0 k1 k2 k3 k4 k5 g1 g2
 go_upto_region 1 with fail
 obtain⟨G,d5⟩:=O2 (((W7.setCell ⟨E,1,none⟩ (.string (Oo t.sort))).setCell ⟨E,2,none⟩ (.string (Oo t.text))).drew);rw[d5];have i1:Below E W7 G:=by rw[<-d5];exact(((Ji E W7).setCell (p:=⟨E,1,none⟩) leR (.string (Oo t.sort))).setCell (p:=⟨E,2,none⟩) leR (.string (Oo t.text))).drew
 have h8:∀k,k≠E->G.heap[k]? = W7.heap[k]? := fun k hk=>by
  rw[<-d5]
  show((W7.setCell ⟨E,1,none⟩ (.string (Oo t.sort))).setCell ⟨E,2,none⟩ (.string (Oo t.text))).heap[k]? = _
  rw[Jh _ ⟨E,2,none⟩ _ _ hk,Jh _ ⟨E,1,none⟩ _ _ hk]
 have p5:Bx G E [.int .i64 t.op,.string (Oo t.sort),.string (Oo t.text),.int .i64 t.a,.int .i64 t.b,.string (Oo (U3 t.kids))]:=by rw[<-d5];exact((r5.o.set 1 (.string (Oo t.sort))).set 2 (.string (Oo t.text))).drew
 have u6:G.heap.size=W7.heap.size:=by rw[<-d5];simp[World.setCell]
 clear d5;have a7:∀k,k≠E->k≠w.heap.size->G.heap[k]? = w6.heap[k]? := fun k hk hk2=>(h8 k hk).trans (H7.o k hk2);have g7:Hid (kb≠E/\tb≠E/\gb≠E/\w.heap.size≠E):=by have:=k7.o;have:=e3.o;have:=g6.o;have:=O.o;unfold Hid;omega
 obtain⟨o0,-,-,p0,o6,o3,-⟩:=HC.o w6 K.o;have o1:Bx G kb [vS,vF,.slice q0 T.length d0,.map (some sb),.map (some fb),.map (some tb),.map (some gb)]:=by
  obtain⟨ty,hh⟩:=o0;exact⟨ty,(a7 kb g7.o.1 e2.o.2.1).trans hh⟩
 have p3:Bx G w.heap.size [.int .i64 t.op,.string (Oo t.sort),.string (Oo t.text),.int .i64 t.a,.int .i64 t.b,.slice Y t.kids.length V]:=by
  obtain⟨ty,hh⟩:=n8.o;exact⟨ty,(h8 _ g7.o.2.2.2).trans hh⟩
 have p1:G.ownsRow base 38 6 (.slice q0 T.length d0) T.length xs:=own_other' p0 (fun k hk=>a7 k (fun e=>by have:=(HR.o.lt k hk).2;have:=O.o;omega) (fun e=>by have:=(HR.o.lt k hk).2;omega));have u5:Kn G tb nT T:=o6.at_heap (a7 tb g7.o.2.1 e2.o.2.2.1);have o4:KM G gb n2 g2:=o3.at_heap (a7 gb g7.o.2.2.1 e2.o.2.2.2);have L2:E<W4.heap.size:=l3.o.lt;have o8:G.ownsRow W4.heap.size 3 1 (.slice Y t.kids.length V) t.kids.length (Uq t.kids):=own_other' k8.o (fun k hk=>a7 k (fun e=>by have:=Oe k8.o k hk;omega) (fun e=>by have:=Oe k8.o k hk;have:=O.o;have:=J.o.size;omega));have q9:Hid (∀k,k<w.heap.size->k≠gb->G.heap[k]? = w.heap[k]?):=fun k hk hne=>by rw[a7 k (by have:=O.o;omega) (by omega),K.o.block k (by have:=O.o;have:=J.o.size;omega),J.o.block k (by have:=O.o;omega),H1.o k hk hne]
 have l2:Hid (G.os=w.os/\G.tape=w.tape/\G.output=w.output):=
  ⟨i1.os.trans (l1.o.1.trans (K.o.os.trans (J.o.os.trans l0.o.1))),i1.tape.trans (l1.o.2.1.trans (K.o.tape.trans (J.o.tape.trans l0.o.2.1))),i1.output.trans (l1.o.2.2.trans (K.o.output.trans (J.o.output.trans l0.o.2.2)))⟩
 have g8:Hid (W4.heap.size<=G.heap.size/\w.heap.size+1<=W4.heap.size):=by have:=s2.o;have:=K.o.size;have:=O.o;have:=J.o.size;unfold Hid;omega
 have j6:=Hd o1;have m9:=Hd p1;have m7:=Hd o4;have k9:=Hd o8;have n9:=Hd p3;obtain⟨D,l6,hD⟩:=u5;have q7:=Hd hD;have r4:=Hd l6.isMap;have j1:G.drew.ownsMap prog 110 (plainElem prog 3) tb nT D:=by
  obtain⟨es,cl,hh,u8⟩:=l6;exact⟨es,cl,hh,u8⟩
 obtain⟨w9,g0,f8,j3⟩:=j1.update P4 underlying78 (by unfold maxLen;omega) (E0 R.o) (plainElem_int underlying3 (F6 (n:=T.length) (by omega)));unfold Ci at g0;have r9:=Hd f8;have e1:=Hd j3;have c5:=j6.o.cell 5;simp only[Jr,Jy]at c5;obtain⟨k0,k1,k2,k3,k4,k5⟩:=p5.cs6;clear i1 h8 p5 u6 a7 o0 p0 o6 o3 o1 p3 p1 o4 o8 hD l6 j1 f8 j3
 go_region
 clear g0 c5 k0 k1 k2 k3 k4 k5;have a8:∀k,k<G.heap.size->k≠tb->w9.heap[k]? = G.heap[k]? := fun k hk hne=>e1.o.block k hk (fun e=>hne (Option.some.inj e));have m0:=Hd a8;have g9:Bx w9 kb [vS,vF,.slice q0 T.length d0,.map (some sb),.map (some fb),.map (some tb),.map (some gb)]:=by
  have e8:=j6.o.lt;obtain⟨ty,hh⟩:=j6.o;exact⟨ty,(a8 kb e8 (Ne.symm n7.o)).trans hh⟩
 have l7:Bx w9 w.heap.size [.int .i64 t.op,.string (Oo t.sort),.string (Oo t.text),.int .i64 t.a,.int .i64 t.b,.slice Y t.kids.length V]:=by
  have e8:=n9.o.lt;obtain⟨ty,hh⟩:=n9.o;exact⟨ty,(a8 w.heap.size e8 (Ne.symm e2.o.2.2.1)).trans hh⟩
 have p2:w9.ownsRow base 38 6 (.slice q0 T.length d0) T.length xs:=own_other' m9.o (fun k hk=>a8 k (m9.o.lt k hk).2 (fun e=>n4.o (hk.trans (congrArg some e))));have o9:w9.ownsRow W4.heap.size 3 1 (.slice Y t.kids.length V) t.kids.length (Uq t.kids):=own_other' k9.o (fun k hk=>a8 k (k9.o.lt k hk).2 (fun e=>by have:=Oe k9.o k hk;have:=g8.o;have:=e3.o;omega));have o5:KM w9 gb n2 g2:=m7.o.at_heap (a8 gb m7.o.lt (Ne.symm hne));have o7:Kn w9 tb (nT+1) (T++[t]):=Kn.put q7.o r4.o R.o HJ.o r9.o;obtain⟨Z,hZ⟩:=O2 w9.heap.size;have M1:kb<Z:=by rw[<-hZ];exact g9.lt
 have M2:w.heap.size<Z:=by rw[<-hZ];exact l7.lt
 have z6:base<=Z:=by omega
 have M4:G.heap.size<=Z:=by rw[<-hZ];exact e1.o.size
 have k1:=g9.cell 2;simp only[Jr,Jy]at k1;obtain⟨x0,x1,x2,x3,x4,x5⟩:=l7.cs6;obtain⟨i0,p7,v8,x6,x7⟩:=X8;have r8:Hid (∀i u,(O5 (t,.slice Y t.kids.length V))[i]? = some u->((w9.alloc (.cells #[.int .i64 t.op,.string (Oo t.sort),.string (Oo t.text),.int .i64 t.a,.int .i64 t.b,.slice Y t.kids.length V] 38)).drew).cell? ((⟨Z,0,none⟩:Addr).add i)=some u):=by
  have h:=World.news_of_block (cs:=#[.int .i64 t.op,.string (Oo t.sort),.string (Oo t.text),.int .i64 t.a,.int .i64 t.b,.slice Y t.kids.length V]) (t:=38) (fr:=(0,0)) (heap_alloc_new w9 (.cells #[.int .i64 t.op,.string (Oo t.sort),.string (Oo t.text),.int .i64 t.a,.int .i64 t.b,.slice Y t.kids.length V] 38));rw[hZ]at h;exact h
 have o2:Bx (w9.alloc (.cells #[.int .i64 t.op,.string (Oo t.sort),.string (Oo t.text),.int .i64 t.a,.int .i64 t.b,.slice Y t.kids.length V] 38)).drew kb [vS,vF,.slice q0 T.length d0,.map (some sb),.map (some fb),.map (some tb),.map (some gb)]:=(g9.alloc _).drew;have g4:=Hd o2;have n0:=Hd p2;have b8:=Hd o9;have r6:=Hd o5;have r7:=Hd o7;clear o2 p2 o9 o5 o7 g9 l7 a8
 go_wp2
 go_region_law
  ((refine step_append_lies _ (by rfl) _ _ _ (by rfl) base 38 i0 _ 6 80 underlying25 p7 v8 x6 x7 rfl (by omega) (.slice q0 T.length d0) T.length xs (by rfl) ((n0.o.alloc _).drew)
     ⟨Z,0,none⟩ 1 1 (O5 (t,.slice Y t.kids.length V)) (by rfl) (by rfl) r8.o (by simp[O5,Value.oneCell'])
     (by omega) (by unfold maxLen;omega) (by omega) (by simp;omega) (Z+1) (by simp;omega) ?_;intro ga ca wa f9 j j2 p9;have d1:=(j.cell_far ⟨kb,2,none⟩ (by simp;omega) (Ne.symm hrk)).trans (g4.o.cell 2);have d2:=(j.frozen_far ⟨kb,2,none⟩ (by simp;omega) (Ne.symm hrk)).trans (g4.o.fz 2);simp only[Jr,Jy]at d1))
 all_goals
  have h6:∀k,k<Z->k≠kb->some k≠(Value.slice q0 T.length d0).ownBlock->(wa.setCell ⟨kb,2,none⟩ (.slice (some ⟨ga,0,none⟩) (T.length+1) ca)).heap[k]? = w9.heap[k]? := fun k hk h1 h2=>by
   rw[Jh _ _ _ _ h1,j.block k (by simp;omega) h2];exact(Oy w9 _).block k (by omega)
  have q1:Bx wa kb [vS,vF,.slice q0 T.length d0,.map (some sb),.map (some fb),.map (some tb),.map (some gb)]:=by
   have e8:=g4.o.lt;obtain⟨ty,hh⟩:=g4.o;exact⟨ty,(j.block kb e8 (Ne.symm hrk)).trans hh⟩
  have e9:ga≠kb:=fun e=>by
   rcases j2 with h|h
   ·exact hrk (h.trans (congrArg some e))
   omega
  have HE:Hid (AddedT base kb sb fb gb tb n nT S T t vS vF (.slice q0 T.length d0) xs w (wa.setCell ⟨kb,2,none⟩ (.slice (some ⟨ga,0,none⟩) (T.length+1) ca))):=by
   refine⟨⟨_,.slice Y t.kids.length V,q1.set 2 _,own_other' f9 (fun k hk=>Jh _ _ _ _ (fun e=>e9 ((Option.some.inj hk).trans e))),?_,fun e=>e9 (Option.some.inj e)⟩,r7.o.at_heap (h6 tb (by have:=e3.o;omega) n7.o (Ne.symm n4.o)),⟨n2,g2,m6.o.1,r6.o.at_heap (h6 gb (by have:=g6.o;omega) (Ne.symm q8.o) (Ne.symm n1.o)),m6.o.2⟩,?_,?_,?_,?_,?_⟩
   ·refine own_lower (own_other' b8.o (fun k hk=>h6 k (by have:=(b8.o.lt k hk).2;omega) (fun e=>by have:=Oe b8.o k hk;have:=g8.o;have:=k7.o;omega) (fun e=>?_))) (by have:=g8.o;omega);obtain⟨cs,fz,h1⟩:=Ob b8.o k hk;obtain⟨A3,H2,h2⟩:=Ob n0.o k e.symm;rw[h1]at h2;cases h2
   ·exact j.os.trans (e1.o.os.trans l2.o.1)
   ·exact j.tape.trans (e1.o.tape.trans l2.o.2.1)
   ·exact j.output.trans (e1.o.output.trans l2.o.2.2)
   ·have h1:=j.size;have h2:Z<=wa.heap.size:=by simp at h1;omega
    simp only[World.setCell,Zf];omega
   intro k hk h1 h2 h3 h4;rw[h6 k (by omega) h1 (Ne.symm h4),m0.o k (by have:=g8.o;omega) h2,q9.o k hk h3]
  clear h6 q1 e9 f9 j j2 p9 d1 d2 k1 x0 x1 x2 x3 x4 x5
  go_wp2_with fail
  refine Jl (v:=.tuple #[.int .i64 (T.length:Nat),.int .i64 0]) ?_ rfl ⟨rfl,HE.o⟩;simp[results,results81,go_sem]
end Go.Proofs.YtfkagjelljnpdaaGreatDoor
namespace Go.Proofs.YtfkagjelljnpdaaGreatDoor
open ChangeShapes WideShapes ChangeAt RowKit
variable {F:List Fn}{S:List (List UInt8)}{T:List Tm}{W W' w w0:World}{b fb gb k kb n nF nS nT sb tb:Nat}{t:TypeId}{vF vS vT:Value}
structure BookS(w0:World)(kb sb fb tb gb nS:Nat)(S:List (List UInt8))(vS vT:Value)(W:World):Prop where
 low:Up w0 W
 ids:w0.heap.size<=kb/\w0.heap.size<=sb/\w0.heap.size<=fb/\w0.heap.size<=tb/\w0.heap.size<=gb
 ne:sb≠fb/\sb≠tb/\sb≠gb/\fb≠tb/\fb≠gb/\tb≠gb
 box:Bx W kb [vS,.slice none 0 0,vT,.map (some sb),.map (some fb),.map (some tb),.map (some gb)]
 sr:W.ownsRow (kb+1) 9 1 vS S.length (strsC S)
 tr:Kz W (kb+1) vT []
 sm:Ue W sb nS (Og S)
 fm:Ue W fb 0 (Ox [])
 tm:Kn W tb 0 []
 km:KM W gb 0 (fun _=>none)
structure Book(w0:World)(kb sb fb tb gb n nS nF nT:Nat)(S:List (List UInt8))(F:List Fn)(T:List Tm)(vS vF vT:Value)(bF:Nat)(W:World):Prop where
 low:Up w0 W
 ids:w0.heap.size<=kb/\w0.heap.size<=sb/\w0.heap.size<=fb/\w0.heap.size<=tb/\w0.heap.size<=gb
 ne:sb≠fb/\sb≠tb/\sb≠gb/\fb≠tb/\fb≠gb/\tb≠gb
 box:Bx W kb [vS,vF,vT,.map (some sb),.map (some fb),.map (some tb),.map (some gb)]
 sr:W.ownsRow (kb+1) 9 1 vS S.length (strsC S)
 fr:K4 W bF vF F
 tr:Kz W (kb+1) vT T
 far:kb<bF/\bF<=W.heap.size/\∀g,vS.ownBlock=some g->g<bF
 sm:Ue W sb nS (Og S)
 fm:Ue W fb nF (Ox F)
 tm:Kn W tb nT T
 km:∃g,KM W gb n g/\VT (Og S) g
theorem Ue.no_cells{f:List UInt8->Option Nat}(h:Ue w b n f){cs:Array Value}{fz:Nat×Nat}:w.heap[b]? ≠ some (.cells cs t fz):=fun e=>by
 obtain⟨D,⟨j,cl,hm,_⟩,_⟩:=h
 rw[hm]at e
 cases e
theorem KM.no_cells{g:List UInt8->Option SI}(h:KM w b n g){cs:Array Value}{fz:Nat×Nat}:w.heap[b]? ≠ some (.cells cs t fz):=fun e=>by
 obtain⟨D,⟨j,cl,hm,_⟩,_⟩:=h
 rw[hm]at e
 cases e
theorem Kn.no_cells(h:Kn w b n T){cs:Array Value}{fz:Nat×Nat}:w.heap[b]? ≠ some (.cells cs t fz):=fun e=>by
 obtain⟨D,⟨j,cl,hm,_⟩,_⟩:=h
 rw[hm]at e
 cases e
theorem Bx.no_smap{g:Nat}{f:List UInt8->Option Nat}{l:List Value}(h:Ue w b n f)(hx:Bx w g l):b≠g:=by
 rintro rfl;obtain⟨t,hx⟩:=hx;exact h.no_cells hx
theorem own_type{base e e' size:Nat}{v:Value}{xs:List Value}(h:w.ownsRow base e size v n xs){cs:Array Value}{fz:Nat×Nat}(hk:w.heap[k]? = some (.cells cs e' fz))(he:e≠e'):v.ownBlock≠some k:=fun e1=>by
 obtain⟨c,f,j⟩:=Ob h k e1
 rw[j]at hk
 cases hk
 exact he rfl
theorem BookS.add{M:List (List UInt8)}(h:BookS w0 kb sb fb tb gb nS S vS vT W)(ha:AddedS (kb+1) kb sb fb nS S M vS vT (.map (some tb)) (.map (some gb)) none 0 0 W W'):∃vS',BookS w0 kb sb fb tb gb (nS+1) M vS' vT W':=by
 obtain⟨v1,hx,E,_⟩:=ha.row;have hb:∀k,k<W.heap.size->k≠kb->k≠sb->vS.ownBlock≠some k->W'.heap[k]? = W.heap[k]? := ha.block;have j:∀g,vS.ownBlock=some g->kb+1<=g:=Oe h.sr;refine⟨v1,⟨?_,h.ids,h.ne,hx,E,?_,ha.names,?_,?_,?_⟩⟩
 ·refine⟨ha.os.trans h.low.os,ha.tape.trans h.low.tape,ha.output.trans h.low.output,Jm h.low.size ha.size,fun k hk=>?_⟩;have G:=h.low.size;have J:=h.ids;rw[hb k (by omega) (by omega) (by omega) (fun e=>by have:=j k e;omega)];exact h.low.block k hk
 ·refine h.tr.keep fun g cs fz hg hge=>?_;have q:g<W.heap.size:=by rcases hg with hg|hg<;>exact(Jo.1 hg).1
  refine hb g q (by omega) (fun e=>?_) ?_
  ·subst e
   rcases hg with hg|hg<;>exact h.sm.no_cells hg
  rcases hg with hg|hg
  ·exact own_type h.sr hg (by decide)
  exact own_type h.sr hg (by decide)
 ·exact h.fm.at_heap (hb fb h.fm.lt (Bx.no_smap h.fm h.box) (Ne.symm h.ne.1) (Gb h.sr h.fm))
 ·exact h.tm.at_heap (hb tb h.tm.lt (Ax h.tm h.box) (Ne.symm h.ne.2.1) (Xb h.sr h.tm))
 exact h.km.at_heap (hb gb h.km.lt (fun e=>S9 h.km (h.box.cell 0) e.symm) (Ne.symm h.ne.2.2.1) (R8 h.sr h.km))
theorem BookS.all(h:BookS w0 kb sb fb tb gb nS S vS vT W):Book w0 kb sb fb tb gb 0 nS 0 0 S [] [] vS (.slice none 0 0) vT W.heap.size W:=
 ⟨h.low,h.ids,h.ne,h.box,h.sr,⟨[],rfl,⟨rfl,.inl ⟨rfl,rfl⟩⟩,(fun x hx=>by cases hx),List.Pairwise.nil⟩,h.tr,⟨h.box.lt,leR,fun g hg=>(h.sr.lt g hg).2⟩,h.sm,h.fm,h.tm,_,h.km,fun s x hx=>by cases hx⟩
theorem Book.bk{bF:Nat}(h:Book w0 kb sb fb tb gb n nS nF nT S F T vS vF vT bF W)(hS:nS<=1000)(hF:nF<=1000)(hE:EV w0)(hR:RT w0):∃g,BK W kb sb fb gb n S F T vS vF vT (.map (some tb)) g:=by
 obtain⟨g,j,q⟩:=h.km;exact⟨g,h.box,h.sm.to hS,h.fm.to hF,h.fr.at,h.tr.at,j,q,hE.keep (Below.keep h.low),hR.keep (Below.keep h.low),h.ne.2.2.1,h.ne.2.2.2.2.1⟩
theorem Id{α:Type}{X:List (α×Value)}{y:α×Value}(h:X.Pairwise E6)(hy:∀x∈X,E6 x y):(X++[y]).Pairwise E6:=by
 rw[List.pairwise_append];exact⟨h,List.pairwise_singleton _ _,fun x hx z hz=>by obtain rfl:=J5.1 hz;exact hy x hx⟩
theorem Book.addF{bF:Nat}(h:Book w0 kb sb fb tb gb n nS nF nT S F T vS vF vT bF W){X:List (Fn×Value)}{f:Fn}(hX:X.map Prod.fst=F)(hr:W.ownsRow bF 75 3 vF F.length (X.flatMap funC))(hA:(∀x∈X,W.ownsRow bF 9 1 x.2 x.1.args.length (strsC x.1.args))/\X.Pairwise E6)
 (ha:AddedF bF kb sb fb gb n nF S F f vS vF vT (.map (some tb)) (X.flatMap funC) W W'):∃vF' n',n'<=n+6/\Book w0 kb sb fb tb gb n' nS (nF+1) nT S (F++[f]) T vS vF' vT bF W':=by
 obtain⟨v1,va,hx,Z,G,_⟩:=ha.row;obtain⟨n',g',V,K,Y⟩:=ha.kinds;obtain⟨g0,O,-⟩:=h.km;have hb:∀k,k<W.heap.size->k≠kb->k≠fb->k≠gb->vF.ownBlock≠some k->W'.heap[k]? = W.heap[k]? := ha.block;have R:∀g,vF.ownBlock=some g->bF<=g:=Oe hr;have E:=h.far;have j:∀g cs ty fz,W.heap[g]? = some (.cells cs ty fz)->ty≠75->g≠kb->W'.heap[g]? = W.heap[g]? := fun g cs ty fz hg ht hne=>
  hb g (Jo.1 hg).1 hne (fun e=>h.fm.no_cells (e ▸ hg)) (fun e=>O.no_cells (e ▸ hg)) (own_type hr hg (Ne.symm ht))
 refine⟨v1,n',V,⟨?_,h.ids,h.ne,hx,?_,⟨X++[(f,va)],?_,?_,?_,Id hA.2 (fun x hx b hb e=>by have h1:=((hA.1 x hx).lt b hb).2;have h2:=Oe G b e;omega)⟩,?_,⟨E.1,Jm E.2.1 ha.size,E.2.2⟩,?_,ha.names,?_,g',K,Y⟩⟩
 ·refine⟨ha.os.trans h.low.os,ha.tape.trans h.low.tape,ha.output.trans h.low.output,Jm h.low.size ha.size,fun k hk=>?_⟩;have h1:=h.low.size;have h2:=h.ids;rw[hb k (by omega) (by omega) (by omega) (by omega) (fun e=>by have:=R k e;omega)];exact h.low.block k hk
 ·refine own_other' h.sr fun g hg=>?_;obtain⟨c,fz,J⟩:=Ob h.sr g hg;exact j g c _ fz J (by decide) (by have:=Oe h.sr g hg;omega)
 ·rw[Yk,hX];rfl
 ·rw[Yx,Jq]
  simpa using Z
 ·intro x q
  rcases Yc.1 q with q|q
  ·refine own_other' (hA.1 x q) fun g hg=>?_;obtain⟨c,fz,J⟩:=Ob (hA.1 x q) g hg;exact j g c _ fz J (by decide) (by have:=Oe (hA.1 x q) g hg;omega)
  obtain rfl:=J5.1 q;exact own_lower G E.2.1
 ·refine h.tr.keep fun g cs fz hg hge=>?_
  rcases hg with hg|hg
  ·exact j g cs _ fz hg (by decide) (by omega)
  exact j g cs _ fz hg (by decide) (by omega)
 ·exact h.sm.at_heap (hb sb h.sm.lt (Bx.no_smap h.sm h.box) h.ne.1 h.ne.2.2.1 (Gb hr h.sm))
 exact h.tm.at_heap (hb tb h.tm.lt (Ax h.tm h.box) (Ne.symm h.ne.2.2.2.1) h.ne.2.2.2.2.2 (Xb hr h.tm))
theorem Book.addT{bF:Nat}(h:Book w0 kb sb fb tb gb n nS nF nT S F T vS vF vT bF W){X:List (Tm×Value)}{t:Tm}(hX:X.map Prod.fst=T)(hr:W.ownsRow (kb+1) 38 6 vT T.length (X.flatMap O5))(hA:(∀x∈X,W.ownsRow (kb+1) 3 1 x.2 x.1.kids.length (Uq x.1.kids))/\X.Pairwise E6)
 (ha:AddedT (kb+1) kb sb fb gb tb n nT S T t vS vF vT (X.flatMap O5) W W'):∃vT' n',n'<=n+60/\Book w0 kb sb fb tb gb n' nS nF (nT+1) S F (T++[t]) vS vF vT' bF W':=by
 obtain⟨v1,va,hx,Z,G,_⟩:=ha.row;obtain⟨n',g',V,K,Y⟩:=ha.kinds;obtain⟨g0,O,-⟩:=h.km;have hb:∀k,k<W.heap.size->k≠kb->k≠tb->k≠gb->vT.ownBlock≠some k->W'.heap[k]? = W.heap[k]? := ha.block;have R:∀g,vT.ownBlock=some g->kb+1<=g:=Oe hr;have E:=h.far;have b0:=h.box.lt;have j:∀g cs ty fz,W.heap[g]? = some (.cells cs ty fz)->ty≠38->g≠kb->W'.heap[g]? = W.heap[g]? := fun g cs ty fz hg ht hne=>
  hb g (Jo.1 hg).1 hne (fun e=>h.tm.no_cells (e ▸ hg)) (fun e=>O.no_cells (e ▸ hg)) (own_type hr hg (Ne.symm ht))
 refine⟨v1,n',V,⟨?_,h.ids,h.ne,hx,?_,?_,⟨X++[(t,va)],?_,?_,?_,Id hA.2 (fun x hx b hb e=>by have h1:=((hA.1 x hx).lt b hb).2;have h2:=Oe G b e;omega)⟩,⟨E.1,Jm E.2.1 ha.size,E.2.2⟩,?_,?_,ha.terms,g',K,Y⟩⟩
 ·refine⟨ha.os.trans h.low.os,ha.tape.trans h.low.tape,ha.output.trans h.low.output,Jm h.low.size ha.size,fun k hk=>?_⟩;have h1:=h.low.size;have h2:=h.ids;rw[hb k (by omega) (by omega) (by omega) (by omega) (fun e=>by have:=R k e;omega)];exact h.low.block k hk
 ·refine own_other' h.sr fun g hg=>?_;obtain⟨c,fz,J⟩:=Ob h.sr g hg;exact j g c _ fz J (by decide) (by have:=Oe h.sr g hg;omega)
 ·refine h.fr.keep fun g cs fz hg hge=>?_
  rcases hg with hg|hg
  ·exact j g cs _ fz hg (by decide) (by omega)
  exact j g cs _ fz hg (by decide) (by omega)
 ·rw[Yk,hX];rfl
 ·rw[Yx,Jq]
  simpa using Z
 ·intro x q
  rcases Yc.1 q with q|q
  ·refine own_other' (hA.1 x q) fun g hg=>?_;obtain⟨c,fz,J⟩:=Ob (hA.1 x q) g hg;exact j g c _ fz J (by decide) (by have:=Oe (hA.1 x q) g hg;omega)
  obtain rfl:=J5.1 q;exact own_lower G (by omega)
 ·exact h.sm.at_heap (hb sb h.sm.lt (Bx.no_smap h.sm h.box) h.ne.2.1 h.ne.2.2.1 (Gb hr h.sm))
 exact h.fm.at_heap (hb fb h.fm.lt (Bx.no_smap h.fm h.box) h.ne.2.2.2.1 h.ne.2.2.2.2.1 (Gb hr h.fm))
def addP(S:List (List UInt8))(num:Tm->Bool)(F:List Fn)(T:List Tm)(i:Nat):Bool:=match T[i]? with
 | none=>true
 | some t=>Nm (Ou (Oh (Og S))) num F (Ox F) (T.take i) t&&(Kd (T.take i) t).isNone
def N4(S:List (List UInt8))(num:Tm->Bool)(F:List Fn)(T:List Tm):Bool:=decide (T.length<=3000)&&decide (S.length+F.length<=300)&&G0 (S++F.map (·.name))&&F.all (Ub (Oh (Og S)))&&(List.range T.length).all (addP S num F T)
theorem seek_idx(T:List Tm)(t:Tm):decide (Ed T t<0)=(Kd T t).isNone:=by
 unfold Ed Kd
 cases T.findIdx? (fun u=>Nl u t)with
 | none=>rfl
 | some i=>simp
theorem GD:∀r∈rules,r.sort≠0:=by decide
theorem VQ{rd:List UInt8->SI}{num:Tm->Bool}{f2:List UInt8->Option Nat}{t:Tm}(h:Nm rd num F f2 T t=true):(rd t.sort).kind≠0:=by
 unfold Nm at h
 cases q:Kk t.op with
 | none=>rw[q]at h;cases h
 | some r=>
   rw[q]at h;simp only[Jw]at h;have j:=h.1.1.1.2;have E:=GD r (Xs q);unfold Ot at j
   split at j
   ·simpa using j
   split at j
   ·simp only[Vn,J1]at j;omega
   simp only[J1]at j;omega
theorem IZ{i:Nat}{x:Int}(h:0<=x/\x<(i:Int)):tmAt (T.take i) x=tmAt T x:=by
 unfold tmAt;rw[List.getElem?_take_of_lt (by omega)]
theorem QR{num:Tm->Bool}{i:Nat}(hi:i<=T.length)(t:Tm):Us S num F T i t=Bo (Ou (On S)) num F (T.take i) t:=by
 unfold Us Bo;rw[J7,Yw hi]
 cases K:Ul t
 ·rfl
 cases J:Di i t
 ·rfl
 simp only[Yz];have hx:∀x∈t.kids,tmAt (T.take i) x=tmAt T x:=fun x hx=>IZ (by simpa using Jx.1 J x hx);have G:Nr (T.take i) t=Nr T t:=by
  unfold Nr;exact Vu (fun x hx'=>by rw[hx x hx'])
 rw[G];have hl:=(Uh K).1;unfold E4
 by_cases j:t.op=16
 ·have hd:tmAt (T.take i) (t.kids.headD 0)=tmAt T (t.kids.headD 0):=by
   cases E:t.kids with
   | nil=>rw[E,j]at hl;exact absurd hl (by decide)
   | cons x r=>exact hx x (by rw[E];simp)
  rw[hd]
  split<;>first|rfl|(exfalso;omega)|skip
  all_goals (repeat (first|rfl|split))
  all_goals (first|rfl|(exfalso;omega))
 by_cases q:t.op=21∨t.op=22
 ·have O:2<=t.kids.length:=by rcases q with h|h<;>(rw[h]at hl;exact hl)
  have hd:tmAt (T.take i) ((t.kids[1]?).getD 0)=tmAt T ((t.kids[1]?).getD 0):=by
   rw[Jg (by omega)];exact hx _ (Jj _)
  rw[hd];rw[if_neg j,if_neg j]
 rw[if_neg j,if_neg j,if_neg q,if_neg q]
theorem OC{L M:List (List UInt8)}(h:G0 (L++M)=true):∀n∈L,K1 n=true:=by
 intro n hn;obtain⟨j,q,rfl⟩:=Ya hn;unfold G0 at h;have:=Jx.1 h j (Yg.2 (by rw[Jq];omega));rw[List.getElem?_append_left q,Jg q]at this;simp only[Jw]at this;exact this.1
theorem OL{own:List UInt8->Bool}{f:Fn}(h:Ub own f=true):(Ou own f.sort).kind≠0:=by
 unfold Ub at h;simp only[Jw,J1]at h;exact h.1.2
theorem XM(S:List (List UInt8))(num:Tm->Bool)(F:List Fn)(T:List Tm)(hnum:∀own t,num t=true->(Ou own t.sort).kind=2∨(Ou own t.sort).kind=3):N4 S num F T=Ek S num F T:=by
 unfold N4 Ek E8
 by_cases K:¬ T.length<=3000
 ·rw[Jd K];rfl
 have K:=Decidable.not_not.1 K;rw[Jb K];simp only[Yz]
 by_cases O:¬ S.length+F.length<=300
 ·rw[Jd O];rfl
 have O:=Decidable.not_not.1 O;rw[Jb O];simp only[Yz]
 cases V:G0 (S++F.map (·.name))
 ·rfl
 simp only[Yz];have q:=QC (OC V);rw[q]
 cases Y:F.all (Ub (On S))
 ·rfl
 simp only[Yz];have Z:∀f∈F,(Ou (On S) f.sort).kind≠0:=fun f hf=>OL (Jx.1 Y f hf);have J:∀i,(∀j,j<i->addP S num F T j=true)->i<T.length->addP S num F T i=(match T[i]? with|none=>true|some t=>Us S num F T i t&&decide (Ed (T.take i) t<0)):=by
  intro i hp G;have hT:∀u∈T.take i,(Ou (On S) u.sort).kind≠0:=by
   intro u hu;obtain⟨j,hj,rfl⟩:=Ya hu;rw[J7]at hj;have:=hp j (by omega);unfold addP at this;rw[Jg (by omega),q]at this;simp only[Jw]at this;rw[Z9];exact VQ this.1
  unfold addP;rw[Jg G,q];simp only;rw[MN (ZR _) hT Z rfl (hnum (On S)),QR (by omega),seek_idx]
 rw[J8,Jx,Jx];constructor
 ·intro h i G;have E:=Yg.1 G;exact(J i (fun j hj=>h j (Yg.2 (by omega))) E).symm.trans (h i G)
 intro h i G;have E:=Yg.1 G;have:∀k,k<=T.length->∀j,j<k->addP S num F T j=true:=by
  intro k
  induction k with
  | zero=>intro _ j hj;exact absurd hj (Jz _)
  | succ k ih=>
    intro hk j hj
    rcases J4.1 hj with R|rfl
    ·exact ih (by omega) j R
    exact(J j (ih (by omega)) (by omega)).trans (h j (Yg.2 (by omega)))
 exact this T.length leR i E
theorem Sb(A B:List (List UInt8))(s:List UInt8):On (A++B) s=(On A s||On B s):=by
 unfold On;rw[J8];simp
theorem OI(F:List Fn)(n:List UInt8):(Ox F n).isSome=On (F.map (·.name)) n:=by rw[X7,idxF_some]
theorem Hr(A:List (List UInt8))(B:List Fn)(s:List UInt8):Eb (Og A) (Ox B) s=!(K1 s&&!On (A++B.map (·.name)) s):=by
 unfold Eb;rw[idxF_some,OI,Sb]
 cases K1 s<;>cases On A s<;>cases On (B.map (·.name)) s<;>rfl
theorem Pd{num:Tm->Bool}(h:G0 (S++F.map (·.name))=false):N4 S num F T=false:=by
 unfold N4;rw[h];simp
theorem OA{num:Tm->Bool}(hk:k<S.length)(h:Eb (Og (S.take k)) (Ox []) S[k]=true):N4 S num F T=false:=by
 refine Pd (freshL_no (i:=k) (by rw[Jq];omega) ?_);rw[Hr]at h;rw[Vd hk,Zo (by omega)];rw[Z8,Zq,Vo]at h;exact h
theorem OM{num:Tm->Bool}(hk:k<F.length)(h:Eb (Og S) (Ox (F.take k)) F[k].name=true):N4 S num F T=false:=by
 refine Pd (freshL_no (i:=S.length+k) (by rw[Jq,Z6];omega) ?_);rw[Hr]at h;rw[Zu (by omega)];simp only[Nat.add_sub_cancel_left,Yh,List.take_length_add_append,<-List.map_take];rw[Z8]at h;exact h
theorem EN{num:Tm->Bool}(hk:k<F.length)(h:Ub (Oh (Og S)) F[k]=false):N4 S num F T=false:=by
 have:F.all (Ub (Oh (Og S)))=false:=by
  rw[Yb];intro ha;rw[Jx.1 ha _ (Jj hk)]at h;cases h
 unfold N4;rw[this];simp
theorem D8{num:Tm->Bool}(hk:k<T.length)(h:addP S num F T k=false):N4 S num F T=false:=by
 have:(List.range T.length).all (addP S num F T)=false:=by
  rw[Yb];intro ha;rw[Jx.1 ha _ (Yg.2 hk)]at h;cases h
 unfold N4;rw[this,Y6]
theorem EG{num:Tm->Bool}(h1:T.length<=3000)(h2:S.length+F.length<=300)(h3:∀j (h:j<S.length),Eb (Og (S.take j)) (Ox []) S[j]=false)(h4:∀j (h:j<F.length),Eb (Og S) (Ox (F.take j)) F[j].name=false/\Ub (Oh (Og S)) F[j]=true)(h5:∀j,j<T.length->addP S num F T j=true):N4 S num F T=true:=by
 unfold N4;rw[Jb h1,Jb h2];simp only[Yz,Jw];refine⟨⟨?_,?_⟩,?_⟩
 ·unfold G0;refine Jx.2 fun i hi=>?_;have hi:=Yg.1 hi;rw[Jg hi];simp only
  by_cases q:i<S.length
  ·have:=h3 i q;rw[Hr]at this;rw[Vd q,Zo (by omega)]
   simpa using this
  rw[Jq,Z6]at hi;have:=(h4 (i - S.length) (by omega)).1;rw[Hr]at this;obtain⟨k,rfl⟩:∃k,i=S.length+k:=⟨i - S.length,by omega⟩;rw[Zu (by omega)];simp only[Nat.add_sub_cancel_left,Yh,List.take_length_add_append,<-List.map_take]at this ⊢
  simpa using this
 ·refine Jx.2 fun f hf=>?_;obtain⟨j,E,rfl⟩:=Ya hf;exact(h4 j E).2
 exact Jx.2 fun i hi=>h5 i (Yg.1 hi)
theorem GP:∀r∈rules,r.most<=50:=by decide
theorem RM{rd:List UInt8->SI}{num:Tm->Bool}{f2:List UInt8->Option Nat}{t:Tm}(h:Nm rd num F f2 T t=true)(hT:T.length<=3000)(ho:(Lit.int .i64 t.op).wf=true)(ha:(Lit.int .i64 t.a).wf=true)(hb:(Lit.int .i64 t.b).wf=true)(hs:t.sort.length<=1048576)(hx:t.text.length<=1048576):WfT t:=by
 unfold Nm at h
 cases j:Kk t.op with
 | none=>rw[j]at h;cases h
 | some r=>
   rw[j]at h;simp only[Jw,J1]at h;have hm:=GP r (Xs j);refine⟨ho,ha,hb,hs,hx,by omega,fun x hx=>?_⟩;have:=Jx.1 h.1.1.1.1.2 x hx;rw[J1]at this;omega
end Go.Proofs.YtfkagjelljnpdaaGreatDoor
namespace Go.Proofs.YtfkagjelljnpdaaGreatDoor
open ChangeShapes WideShapes ChangeAt RowKit Proofs.Tryz
variable {W:World}{b:Nat}
theorem DP(n:Int)(w:World):(Instr.makeMap 56 (some (.int .i64 n))).run prog w=.ok (.map (some w.heap.size)) (w.alloc (.map #[] 0)):=by
 simp[Instr.makeMap,go_sem]
theorem DD(n:Int)(w:World):(Instr.makeMap 78 (some (.int .i64 n))).run prog w=.ok (.map (some w.heap.size)) (w.alloc (.map #[] 0)):=by
 simp[Instr.makeMap,go_sem]
structure Made(w:World)(kb sb fb tb gb:Nat)(W:World):Prop where
 low:Up w W
 ids:w.heap.size<=kb/\w.heap.size<=sb/\w.heap.size<=fb/\w.heap.size<=tb/\w.heap.size<=gb
 ne:sb≠fb/\sb≠tb/\sb≠gb/\fb≠tb/\fb≠gb/\tb≠gb
 box:Bx W kb [.slice none 0 0,.slice none 0 0,.slice none 0 0,.map (some sb),.map (some fb),.map (some tb),.map (some gb)]
 s:W.heap[sb]? = some (.map #[] 0)
 f:W.heap[fb]? = some (.map #[] 0)
 t:W.heap[tb]? = some (.map #[] 0)
 g:W.heap[gb]? = some (.map #[] 0)
theorem Eu{w w':World}(h:Up w w')(o:Obj):Up w (w'.alloc o):=h.alloc h.size _
theorem DR(W1:World)(i j k l:Nat)(hi:W1.heap.size<=i/\i<W1.heap.size+4)(hj:W1.heap.size<=j/\j<W1.heap.size+4)(hk:W1.heap.size<=k/\k<W1.heap.size+4)(hl:W1.heap.size<=l/\l<W1.heap.size+4)(hne:i≠j/\i≠k/\i≠l/\j≠k/\j≠l/\k≠l) :
 Made W1 (W1.heap.size+1+1+1+1) i j k l (((((W1.alloc (.map #[] 0)).alloc (.map #[] 0)).alloc (.map #[] 0)).alloc (.map #[] 0)).alloc (.cells #[.slice none 0 0,.slice none 0 0,.slice none 0 0,.map (some i),.map (some j),.map (some k),.map (some l)] 137)).drew:=by
 have hm:∀d,W1.heap.size<=d/\d<W1.heap.size+4->(((((W1.alloc (.map #[] 0)).alloc (.map #[] 0)).alloc (.map #[] 0)).alloc (.map #[] 0)).alloc (.cells #[.slice none 0 0,.slice none 0 0,.slice none 0 0,.map (some i),.map (some j),.map (some k),.map (some l)] 137)).drew.heap[d]? = some (.map #[] 0):=by
  intro d hd
  show((((((W1.heap.push _).push _).push _).push _).push _)[d]?)=_
  simp only[Array.getElem?_push,Array.size_push];rw[if_neg (by omega)]
  repeat' split
  all_goals first|rfl|(exfalso;omega)
 refine⟨?_,⟨by omega,hi.1,hj.1,hk.1,hl.1⟩,hne,?_,hm i hi,hm j hj,hm k hk,hm l hl⟩
 ·exact(Eu (Eu (Eu (Eu (Eu (Ji _ _) _) _) _) _) _).drew
 have h:=Oq ((((W1.alloc (.map #[] 0)).alloc (.map #[] 0)).alloc (.map #[] 0)).alloc (.map #[] 0)) [.slice none 0 0,.slice none 0 0,.slice none 0 0,.map (some i),.map (some j),.map (some k),.map (some l)] 137;have e:((((W1.alloc (.map #[] 0)).alloc (.map #[] 0)).alloc (.map #[] 0)).alloc (.map #[] 0)).heap.size=W1.heap.size+1+1+1+1:=by simp
 rw[e]at h;exact h.drew
theorem Ao{P:Program}{k:TypeId}{R:Value->Option (DataW Unit×List MemPlace)}(h:W.heap[b]? = some (.map #[] 0)):W.ownsMap P k R b 0 (.map []):=by
 obtain⟨q,cl,hm,j⟩:=World.ownsMap_made (H:=Unit) W P k R;rw[heap_alloc_new]at hm;cases hm;exact⟨_,_,h,j⟩
theorem Ue.new(h:W.heap[b]? = some (.map #[] 0)):Ue W b 0 (Og []):=⟨_,Ao h,fun _=>⟨rfl,fun i hi=>by cases hi⟩⟩
theorem Kn.new(h:W.heap[b]? = some (.map #[] 0)):Kn W b 0 []:=⟨_,Ao h,fun _ _=>⟨rfl,fun i hi=>by cases hi⟩⟩
theorem KM.new(h:W.heap[b]? = some (.map #[] 0)):KM W b 0 (fun _=>none):=⟨_,Ao h,fun _=>⟨rfl,rfl⟩⟩
theorem Made.begin{w:World}{kb sb fb tb gb:Nat}{W2:World}{vT:Value}(h:Made w kb sb fb tb gb W)(hg:W.grownBy W2 none)(hr:W2.ownsRow (kb+1) 38 6 vT 0 []):BookS w kb sb fb tb gb 0 [] (.slice none 0 0) vT (W2.setCell ⟨kb,2,none⟩ vT):=by
 have hb:∀k,k<W.heap.size->W2.heap[k]? = W.heap[k]? := fun k hk=>hg.block k hk (fun e=>by cases e);have hx:Bx W2 kb [.slice none 0 0,.slice none 0 0,.slice none 0 0,.map (some sb),.map (some fb),.map (some tb),.map (some gb)]:=by
  have q:=h.box.lt;obtain⟨ty,hh⟩:=h.box;exact⟨ty,(hb kb q).trans hh⟩
 have G:∀k,k≠kb->(W2.setCell ⟨kb,2,none⟩ vT).heap[k]? = W2.heap[k]? := fun k hk=>Jh W2 ⟨kb,2,none⟩ _ k hk;have j:∀k:Nat,W.heap[k]? = some (Obj.map #[] 0)->(W2.setCell ⟨kb,2,none⟩ vT).heap[k]? = some (Obj.map #[] 0):=fun k hk=>by
  have E:k≠kb:=by
   rintro rfl;obtain⟨ty,hh⟩:=h.box;rw[hk]at hh;cases hh
  rw[G k E,hb k (Jo.1 hk).1];exact hk
 refine⟨?_,h.ids,h.ne,hx.set 2 vT,⟨rfl,.inl ⟨rfl,rfl⟩⟩,⟨[],rfl,own_other' hr (fun g hgk=>G g (fun e=>by have:=Oe hr g hgk;omega)),(fun x hx=>by cases hx),List.Pairwise.nil⟩,Ue.new (j sb h.s),Ue.new (j fb h.f),Kn.new (j tb h.t),KM.new (j gb h.g)⟩;have J:=h.low.size;have K:=h.ids;have O:=hg.size;refine⟨hg.os.trans h.low.os,hg.tape.trans h.low.tape,hg.output.trans h.low.output,?_,fun k hk=>?_⟩
 ·simp only[World.setCell,Zf];omega
 rw[G k (by omega),hb k (by omega),h.low.block k hk]
end Go.Proofs.YtfkagjelljnpdaaGreatDoor
