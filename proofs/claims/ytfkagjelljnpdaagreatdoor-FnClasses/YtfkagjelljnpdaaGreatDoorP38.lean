import Derived.Test.YtfkagjelljnpdaaGreatDoorP29
import Derived.Test.YtfkagjelljnpdaaGreatDoorP13
import Derived.Test.YtfkagjelljnpdaaGreatDoorP25
set_option linter.all false
set_option maxRecDepth 100000
set_option maxHeartbeats 8000000
namespace Go.Proofs.YtfkagjelljnpdaaGreatDoor
open ChangeShapes WideShapes ChangeAt RowKit Proofs.Tryz
theorem BQ{w:World}{g b:Nat}{l:List Value}(h:Bx w g l)(hne:g≠b)(i:Nat)(v:Value):Bx (w.setCell ⟨b,i,none⟩ v) g l:=by
 obtain⟨ty,hh⟩:=h;exact⟨ty,(Jh w ⟨b,i,none⟩ v g hne).trans hh⟩
theorem wpList_appF{ops:Array Oper}{rest:List Oper}{o:Oper}{a:Act}{Q:Exit->Act->World->Prop}{W:World}{x:Fn×Value}{base n:Nat}{v:Value}{xs:List Value}(hgd:o.guard=none)(s y:Operand)
 (ho:o.op=.call { callee:=.builtin .append,args:=#[s,y],argTypes:=#[24,24] }) (hs:a.eval s=v) (hown:W.ownsRow base 75 3 v n xs) (hone:x.2.oneCell'=true)
 (H:Nat) (hx:a.eval y=.slice (some ⟨H,0,none⟩) 1 1) (hH:W.heap.size=H) (hn:n<=1000000000) (hbase:base<=W.heap.size)
 (h:∀g cap W',W'.ownsRow base 75 3 (.slice (some ⟨g,0,none⟩) (n+1) cap) (n+1) (xs++funC x)->(W.alloc (.cells (funC x).toArray 75)).grownBy W' v.ownBlock->(v.ownBlock=some g∨W.heap.size<g)->wpList prog ops Q rest (a.put o.dst (.slice (some ⟨g,0,none⟩) (n+1) cap)) W') :
 wpList prog ops Q (o::rest) a (W.alloc (.cells (funC x).toArray 75)):=by
 subst hH;obtain⟨i0,q,E,G,J⟩:=Ss;refine wpList_append_lies _ hgd s y 24 ho base 75 i0 _ 3 56 underlying24 q E G J rfl (by decide) v n xs hs (hown.alloc _) ⟨W.heap.size,0,none⟩ 1 1 (funC x) hx rfl
  (World.news_of_block (fr:=(0,0)) Js) (fun u hu=>by simp only[funC,Ym,Yi,or_false]at hu;rcases hu with rfl|rfl|rfl<;>first|exact hone|rfl) (by decide) (by unfold maxLen;omega) (by omega) (by simp;omega) _ rfl ?_
 intro g cap W' K O j _;refine h g cap W' K O ?_
 rcases j with j|j
 ·exact .inl j
 refine .inr ?_;rw[j];simp
theorem Wf{ops:Array Oper}{rest:List Oper}{o:Oper}{a:Act}{Q:Exit->Act->World->Prop}{W:World}{x:Tm×Value}{base n:Nat}{v:Value}{xs:List Value}(hgd:o.guard=none)(s y:Operand)
 (ho:o.op=.call { callee:=.builtin .append,args:=#[s,y],argTypes:=#[25,25] }) (hs:a.eval s=v) (hown:W.ownsRow base 38 6 v n xs) (hone:x.2.oneCell'=true)
 (H:Nat) (hx:a.eval y=.slice (some ⟨H,0,none⟩) 1 1) (hH:W.heap.size=H) (hn:n<=1000000000) (hbase:base<=W.heap.size)
 (h:∀g cap W',W'.ownsRow base 38 6 (.slice (some ⟨g,0,none⟩) (n+1) cap) (n+1) (xs++O5 x)->(W.alloc (.cells (O5 x).toArray 38)).grownBy W' v.ownBlock->(v.ownBlock=some g∨W.heap.size<g)->wpList prog ops Q rest (a.put o.dst (.slice (some ⟨g,0,none⟩) (n+1) cap)) W') :
 wpList prog ops Q (o::rest) a (W.alloc (.cells (O5 x).toArray 38)):=by
 subst hH;obtain⟨i0,q,E,G,J⟩:=X8;refine wpList_append_lies _ hgd s y 25 ho base 38 i0 _ 6 80 underlying25 q E G J rfl (by decide) v n xs hs (hown.alloc _) ⟨W.heap.size,0,none⟩ 1 1 (O5 x) hx rfl
  (World.news_of_block (fr:=(0,0)) Js) (fun u hu=>by simp only[O5,Ym,Yi,or_false]at hu;rcases hu with rfl|rfl|rfl|rfl|rfl|rfl<;>first|exact hone|rfl) (by decide) (by unfold maxLen;omega) (by omega) (by simp;omega) _ rfl ?_
 intro g cap W' K O j _;refine h g cap W' K O ?_
 rcases j with j|j
 ·exact .inl j
 refine .inr ?_;rw[j];simp
def Ac(v:Value)(n:Nat):Prop:=(v=.slice none 0 0/\n=0)∨∃g c,v=.slice (some ⟨g,0,none⟩) n c
theorem I5{ops:Array Oper}{rest:List Oper}{o:Oper}{a:Act}{Q:Exit->Act->World->Prop}{W:World}{va:Value}{L:List (List UInt8)}(hgd:o.guard=none)(s y:Operand)
 (ho:o.op=.call { callee:=.builtin .append,args:=#[s,y],argTypes:=#[23,23] }) (hs:a.eval s=.slice none 0 0) (hx:a.eval y=va) (hva:O4 W va L) (hsh:Ac va L.length) (hn:L.length<=1000000000)
 (h:∀v' W',W'.ownsRow W.heap.size 9 1 v' L.length (strsC L)->(∃p c,v'=.slice p L.length c)->Up W W'->wpList prog ops Q rest (a.put o.dst v') W') :
 wpList prog ops Q (o::rest) a W:=by
 have j:W.ownsRow W.heap.size 9 1 (.slice none 0 0) 0 []:=⟨rfl,.inl ⟨rfl,rfl⟩⟩
 rcases hsh with⟨rfl,J⟩|⟨g,c,rfl⟩
 ·obtain⟨i0,q,R,V,Y⟩:=Xr;have K:L=[]:=Jt J;subst K;exact wpList_append_own_none hgd s y 23 ho W.heap.size 9 i0 1 underlying23 q _ 0 [] hs j hx (h _ W j ⟨_,_,rfl⟩ (Ji _ _))
 obtain⟨p,Z,e,h1,h2,G⟩:=hva
 cases e
 refine Lb hgd s y ho hs j (ad:=⟨g,0,none⟩) (c:=c) hx (fun i hi=>?_) (by omega) leR (fun v' W' ho' hg'=>?_)
 ·rcases G with G|⟨b,e,hb,O⟩
  ·rw[G]at hi;cases hi
  cases e
  rw[show(⟨g,0,none⟩:Addr).add i=⟨g,i,none⟩by simp only[Addr.add];split<;>simp_all];exact O i hi
 have E:W'.ownsRow W.heap.size 9 1 v' L.length (strsC L):=by simpa using ho'
 refine h v' W' E ?_ ((Ji _ _).grown hg' leR (fun k e=>by cases e));obtain⟨p,c,e,_⟩:=Kp E;exact⟨p,c,e⟩
theorem F7{ops:Array Oper}{rest:List Oper}{o:Oper}{a:Act}{Q:Exit->Act->World->Prop}{W:World}{base n c:Nat}{v:Value}{xs:List Value}{ad:Addr}{L:List Int}(hgd:o.guard=none)(s y:Operand)
 (ho:o.op=.call { callee:=.builtin .append,args:=#[s,y],argTypes:=#[31,31] }) (hs:a.eval s=v) (hown:W.ownsRow base 3 1 v n xs)
 (hx:a.eval y=.slice (some ad) L.length c) (hc:∀i (h:i<L.length),W.cell? (ad.add i)=some (.int .i64 L[i])) (hn:n+L.length<=1000000000) (hbase:base<=W.heap.size)
 (h:∀v' W',W'.ownsRow base 3 1 v' (n+L.length) (xs++Uq L)->W.grownBy W' v.ownBlock->wpList prog ops Q rest (a.put o.dst v') W') :
 wpList prog ops Q (o::rest) a W:=by
 obtain⟨i0,q,E,G,J⟩:=Iv;obtain⟨v',w',Y,R,V,_,_⟩:=run_append_own_at (P:=prog) W base 31 o.type 3 i0 _ 1 8 underlying31 q E G J rfl (by decide) v n xs hown ad L.length c (Uq L) (by simp[Uq]) (fun j u hu=>by
  have O:j<L.length:=by have:=(Zm.1 hu).1;simpa[Uq]using this
  rw[hc j O,<-hu];simp[Uq,List.getElem?_eq_getElem O]) (fun u hu=>by
  simp only[Uq,Yu]at hu;obtain⟨x,_,rfl⟩:=hu;rfl) (by unfold maxLen;omega) (by omega) hbase
 refine wpList_plain hgd fun K hK=>?_;unfold Oper.wp;simp[execOp,ho,resolve,invoke,builtin,hs,hx,Y,Result.andThen];exact hK _ _ (h v' w' R V)
theorem Rw{ops:Array Oper}{rest:List Oper}{o:Oper}{a:Act}{Q:Exit->Act->World->Prop}{W:World}{va:Value}{L:List Int}(hgd:o.guard=none)(s y:Operand)
 (ho:o.op=.call { callee:=.builtin .append,args:=#[s,y],argTypes:=#[31,31] }) (hs:a.eval s=.slice none 0 0) (hx:a.eval y=va) (hva:IntsAt W va L) (hsh:Ac va L.length) (hn:L.length<=1000000000)
 (h:∀v' W',W'.ownsRow W.heap.size 3 1 v' L.length (Uq L)->(∃p c,v'=.slice p L.length c)->Up W W'->wpList prog ops Q rest (a.put o.dst v') W') :
 wpList prog ops Q (o::rest) a W:=by
 have j:W.ownsRow W.heap.size 3 1 (.slice none 0 0) 0 []:=⟨rfl,.inl ⟨rfl,rfl⟩⟩
 rcases hsh with⟨rfl,J⟩|⟨g,c,rfl⟩
 ·obtain⟨i0,q,R,V,Y⟩:=Iv;have K:L=[]:=Jt J;subst K;exact wpList_append_own_none hgd s y 31 ho W.heap.size 3 i0 1 underlying31 q _ 0 [] hs j hx (h _ W j ⟨_,_,rfl⟩ (Ji _ _))
 obtain⟨p,Z,e,h1,h2,G⟩:=hva
 cases e
 refine F7 hgd s y ho hs j (ad:=⟨g,0,none⟩) (c:=c) hx (fun i hi=>?_) (by omega) leR (fun v' W' ho' hg'=>?_)
 ·rcases G with G|⟨b,e,hb,O⟩
  ·rw[G]at hi;cases hi
  cases e
  rw[show(⟨g,0,none⟩:Addr).add i=⟨g,i,none⟩by simp only[Addr.add];split<;>simp_all];exact O i hi
 have E:W'.ownsRow W.heap.size 3 1 v' L.length (Uq L):=by simpa using ho'
 refine h v' W' E ?_ ((Ji _ _).grown hg' leR (fun k e=>by cases e));obtain⟨p,c,e,_⟩:=Kp E;exact⟨p,c,e⟩
end Go.Proofs.YtfkagjelljnpdaaGreatDoor
namespace Go.Proofs.YtfkagjelljnpdaaGreatDoor
open ChangeShapes WideShapes ChangeAt RowKit
variable {B N g k m mb n size:Nat}{F:List Fn}{S:List (List UInt8)}{T:List Tm}{e:TypeId}{v vf vs vt:Value}{w w' w0:World}{xs:List Value}
def drawTs:List (Option TypeId):=[some 38,some 71]
def XL:List (Option TypeId):=[some 38,some 71,some 75]
structure DrX(g B:Nat)(ts:List (Option TypeId))(w w':World):Prop where
 os:w'.os=w.os
 tape:w'.tape=w.tape
 output:w'.output=w.output
 size:w.heap.size<=w'.heap.size
 block:∀k,k<w.heap.size->k≠g->(k<B∨Ix w k∉ts)->w'.heap[k]? = w.heap[k]?
theorem DrX.refl{ts:List (Option TypeId)}(g B:Nat)(w:World):DrX g B ts w w:=⟨rfl,rfl,rfl,leR,fun _ _ _ _=>rfl⟩
theorem DrX.trans{ts:List (Option TypeId)}{a b c:World}(h:DrX g B ts a b)(k:DrX g B ts b c):DrX g B ts a c:=
 ⟨k.os.trans h.os,k.tape.trans h.tape,k.output.trans h.output,Jm h.size k.size,fun i hi hg hk=>by
  have e:=h.block i hi hg hk
  refine(k.block i (Jn hi h.size) hg ?_).trans e
  rw[Iq e]
  exact hk⟩
theorem DrX.bar{ts:List (Option TypeId)}(h:Q.Bar g w w'):DrX g B ts w w':=⟨h.os,h.tape,h.output,h.size,fun k hk hg _=>h.block k hk hg⟩
theorem DrX.up{ts:List (Option TypeId)}(h:Up w w'):DrX g B ts w w':=⟨h.os,h.tape,h.output,h.size,fun k hk _ _=>h.block k hk⟩
theorem DrX.bl{ts:List (Option TypeId)}(h:DrX g B ts w w')(h1:N<=g)(h2:N<=B)(h3:N<=w.heap.size):Below N w w':=⟨h.os,h.tape,h.output,h.size,fun k hk=>h.block k (by omega) (by omega) (.inl (by omega))⟩
theorem DrX.set{ts:List (Option TypeId)}{b i:Nat}(hb:B<=b)(ht:Ix w b∈ts):DrX g B ts w (w.setCell ⟨b,i,none⟩ v):=
 ⟨rfl,rfl,rfl,by simp[World.setCell],fun k _ _ hk=>by
  refine Jh _ _ _ _ (fun e=>?_)
  subst e
  rcases hk with h|h
  ·omega
  exact h ht⟩
theorem DrX.grown{ts:List (Option TypeId)}{base:Nat}(h:w.grownBy w' v.ownBlock)(hown:w.ownsRow base e size v n xs)(hb:B<=base)(ht:some e∈ts):DrX g B ts w w':=
 ⟨h.os,h.tape,h.output,h.size,fun k hk _ hk2=>h.block k hk (fun e2=>by
  have E:=Oe hown k e2.symm
  obtain⟨c,fz,q⟩:=Ob hown k e2.symm
  rcases hk2 with j|j
  ·omega
  exact j (by rw[U7 q];exact ht))⟩
theorem DrX.late{ts:List (Option TypeId)}(h:DrX g B ts w0 w){r:Option Nat}(hg:w.grownBy w' r)(hr:∀k,r=some k->w0.heap.size<=k):DrX g B ts w0 w':=
 ⟨hg.os.trans h.os,hg.tape.trans h.tape,hg.output.trans h.output,Jm h.size hg.size,fun k hk h1 h2=>(hg.block k (Jn hk h.size) (fun e=>by have:=hr k e.symm;omega)).trans (h.block k hk h1 h2)⟩
theorem DrX.own{ts:List (Option TypeId)}(h:DrX g B ts w w'){base:Nat}(ho:w.ownsRow base e size v n xs)(hg:g<base)(ht:some e∉ts):w'.ownsRow base e size v n xs:=
 own_other' ho fun k hk=>by
  obtain⟨c,fz,j⟩:=Ob ho k hk
  have:=Oe ho k hk
  exact h.block k (ho.lt k hk).2 (by omega) (.inr (by rw[U7 j];exact ht))
theorem DrX.cell{ts:List (Option TypeId)}(h:DrX g B ts w w'){p:Addr}{u:Value}(hc:w.cell? p=some u)(h1:p.block≠g)(h2:p.block<B∨Ix w p.block∉ts):w'.cell? p=some u:=
 (Zc (h.block p.block (J3 w p hc) h1 h2)).trans hc
theorem DrX.bx{ts:List (Option TypeId)}(h:DrX g B ts w w'){b:Nat}{t:TypeId}{l:List Value}(hx:Tb w b t l)(h1:b≠g)(h2:some t∉ts):Tb w' b t l:=
 (h.block b hx.bx.lt h1 (.inr (by rw[hx.ty];exact h2))).trans hx
abbrev G3(g B:Nat)(w w':World):Prop:=DrX g B drawTs w w'
abbrev N9(g B:Nat)(w w':World):Prop:=DrX g B XL w w'
theorem DrX.f(h:G3 g B w w'):N9 g B w w':=⟨h.os,h.tape,h.output,h.size,fun k hk hg hk2=>h.block k hk hg (hk2.imp id (fun h hm=>h (by
 have:∀t∈drawTs,t∈XL:=by decide
 exact this _ hm)))⟩
def Er(l:List UInt8):Prop:=(47:UInt8)∉l
def G4(T:List Tm):Prop:=∀t∈T,Er t.text
def Nk:List UInt8:=[82,101,97,108]
structure TmD(t:Tm):Prop where
 op:0<=t.op/\t.op<=100
 a : -10<=t.a/\t.a<=100
 b : -10<=t.b/\t.b<=100
 so:t.sort.length<=20000/\t.sort≠Nk
 tx:t.text.length<=20000/\Er t.text
 kn:t.kids.length<=50
 ks:∀x∈t.kids,-10<=x/\x<=2000000
structure FnD(f:Fn):Prop where
 nm:f.name.length<=20000/\Er f.name
 an:f.args.length<=5
 ar:∀a∈f.args,a.length<=20000/\a≠Nk
 so:f.sort.length<=20000/\f.sort≠Nk
structure DBk(S:List (List UInt8))(F:List Fn)(T:List Tm)(m:Nat):Prop where
 ls:S.length<=10
 s:∀s∈S,s.length<=20000
 lf:F.length<=100
 f:∀f∈F,FnD f
 lt:T.length<=m
 t:∀t∈T,TmD t
def Q4(w:World)(v:Value)(L:List Int):Prop:=IntsAt w v L/\Ac v L.length
def Px(w:World)(v:Value)(L:List (List UInt8)):Prop:=O4 w v L/\Ac v L.length
theorem Ay{base:Nat}(h:w.ownsRow base e size v n xs):Ac v n:=by
 rcases h.2 with⟨rfl,rfl⟩|⟨g,j,cur,rfl,_⟩
 ·exact .inl ⟨rfl,rfl⟩
 exact .inr ⟨g,j,rfl⟩
structure LBk(g N B mb:Nat)(w0 w:World)(vs vf vt:Value)(S:List (List UInt8))(F:List Fn)(T:List Tm)(k m:Nat):Prop where
 d:N9 g B w0 w
 cur:Q.Ux g N w k
 box:Tb w mb 71 [.pointer (some ⟨g,0,none⟩),vs,vf,vt]
 lo:N<=B/\B<=mb/\B<=w0.heap.size
 s:∀W,N9 g B w0 W->Px W vs S
 f:∃X:List (Fn×Value),X.map Prod.fst=F/\w.ownsRow B 75 3 vf F.length (X.flatMap funC)/\∀x∈X,∀W,N9 g B w0 W->Px W x.2 x.1.args
 t:∃X:List (Tm×Value),X.map Prod.fst=T/\w.ownsRow B 38 6 vt T.length (X.flatMap O5)/\∀x∈X,∀W,N9 g B w0 W->Q4 W x.2 x.1.kids
 db:DBk S F T m
theorem LBk.gB(h:LBk g N B mb w0 w vs vf vt S F T k m):g<B/\g≠mb:=by
 have:=h.cur.1;have:=h.lo;omega
theorem LBk.now(h:LBk g N B mb w0 w vs vf vt S F T k m):LBk g N B mb w w vs vf vt S F T k m:=by
 obtain⟨X,j,q,E⟩:=h.f;obtain⟨Y,G,f2,f3⟩:=h.t;exact⟨DrX.refl _ _ _,h.cur,h.box,⟨h.lo.1,h.lo.2.1,Jm h.lo.2.2 h.d.size⟩,fun W hW=>h.s W (h.d.trans hW),⟨X,j,q,fun x hx W hW=>E x hx W (h.d.trans hW)⟩,⟨Y,G,f2,fun x hx W hW=>f3 x hx W (h.d.trans hW)⟩,h.db⟩
theorem LBk.up{k':Nat}(h:LBk g N B mb w0 w vs vf vt S F T k m)(hb:Q.Bar g w w')(hc:Q.Ux g N w' k'):LBk g N B mb w0 w' vs vf vt S F T k' m:=by
 obtain⟨X,E,j,G⟩:=h.f;obtain⟨Y,J,f2,f3⟩:=h.t;have K:=h.gB;refine⟨h.d.trans (.bar hb),hc,(hb.block mb h.box.bx.lt (Ne.symm K.2)).trans h.box,h.lo,h.s,⟨X,E,own_other' j fun q hq=>hb.block q (j.lt q hq).2 (by have:=Oe j q hq;omega),G⟩,⟨Y,J,own_other' f2 fun q hq=>hb.block q (f2.lt q hq).2 (by have:=Oe f2 q hq;omega),f3⟩,h.db⟩
theorem LBk.next(h:LBk g N B mb w0 w vs vf vt S F T k m)(hb:Up w w'):LBk g N B mb w0 w' vs vf vt S F T k m:=
 h.up (.of hb) (h.cur.bl (hb.mono h.cur.2.1))
theorem LBk.terms(h:LBk g N B mb w0 w vs vf vt S F T k m):TermsAt w vt T:=by
 obtain⟨X,rfl,J,R⟩:=h.t;obtain⟨p,c,rfl,K,O,G⟩:=Kp J;refine⟨p,c,rfl,K,O,?_⟩
 rcases G with G|⟨q,rfl,hq⟩
 ·exact .inl (Jt G)
 refine .inr ⟨q,rfl,hq,fun i hi=>?_⟩;have E:i<X.length:=by simpa using hi
 have j:∀d (u:Value),d<6->(O5 X[i])[d]? = some u->w.cell? ⟨q,i*6+d,none⟩=some u:=fun d u hd hu=>Ey J (by rw[Ng (k:=6) (fun _=>rfl) X i d E hd];exact hu);rw[Yh];exact⟨j 0 _ (by decide) rfl,j 1 _ (by decide) rfl,j 2 _ (by decide) rfl,j 3 _ (by decide) rfl,j 4 _ (by decide) rfl,_,j 5 _ (by decide) rfl,(R _ (Jj E) w h.d).1⟩
theorem LBk.funs(h:LBk g N B mb w0 w vs vf vt S F T k m):Em w vf F:=by
 obtain⟨X,rfl,J,R⟩:=h.f;obtain⟨p,c,rfl,K,O,E⟩:=Kp J;refine⟨p,c,rfl,K,O,?_⟩
 rcases E with E|⟨q,rfl,hq⟩
 ·exact .inl (Jt E)
 refine .inr ⟨q,rfl,hq,fun i hi=>?_⟩;have j:i<X.length:=by simpa using hi
 have G:∀d (u:Value),d<3->(funC X[i])[d]? = some u->w.cell? ⟨q,i*3+d,none⟩=some u:=fun d u hd hu=>Ey J (by rw[Ng (k:=3) (fun _=>rfl) X i d j hd];exact hu);rw[Yh];exact⟨G 0 _ (by decide) rfl,⟨_,G 1 _ (by decide) rfl,(R _ (Jj j) w h.d).1⟩,G 2 _ (by decide) rfl⟩
theorem LBk.cells(h:LBk g N B mb w0 w vs vf vt S F T k m):w.cell? ⟨mb,0,none⟩=some (.pointer (some ⟨g,0,none⟩))/\w.cell? ⟨mb,1,none⟩=some vs/\w.cell? ⟨mb,2,none⟩=some vf/\w.cell? ⟨mb,3,none⟩=some vt:=
 ⟨h.box.bx.cell 0,h.box.bx.cell 1,h.box.bx.cell 2,h.box.bx.cell 3⟩
theorem LBk.putT{w1:World}(h:LBk g N B mb w0 w vs vf vt S F T k m){vk:Value}{t:Tm}{gt ct:Nat}{X:List (Tm×Value)}(hX:X.map Prod.fst=T/\w.ownsRow B 38 6 vt T.length (X.flatMap O5)/\∀x∈X,∀W,N9 g B w0 W->Q4 W x.2 x.1.kids)(hk:∀W,N9 g B w0 W->Q4 W vk t.kids)(ht:TmD t)(ho:w1.ownsRow B 38 6 (.slice (some ⟨gt,0,none⟩) (T.length+1) ct) (T.length+1) (X.flatMap O5++O5 (t,vk)))(hg:w.grownBy w1 vt.ownBlock) :
 LBk g N B mb w0 (w1.setCell ⟨mb,3,none⟩ (.slice (some ⟨gt,0,none⟩) (T.length+1) ct)) vs vf (.slice (some ⟨gt,0,none⟩) (T.length+1) ct) S F (T++[t]) k (m+1)/\G3 g B w (w1.setCell ⟨mb,3,none⟩ (.slice (some ⟨gt,0,none⟩) (T.length+1) ct)):=by
 obtain⟨V,G,Z⟩:=hX;have a8:=h.gB;have K:G3 g B w w1:=.grown hg G leR (by decide);have own:∀b,Ix w b≠some 38->vt.ownBlock≠some b:=fun b hb e=>by
  obtain⟨c,fz,J⟩:=Ob G b e;exact hb (U7 J)
 have R:w1.heap[mb]? = w.heap[mb]? := hg.block mb h.box.bx.lt (Ne.symm (own mb (by rw[h.box.ty];decide)));have j:Tb w1 mb 71 [.pointer (some ⟨g,0,none⟩),vs,vf,vt]:=R.trans h.box;have O:G3 g B w1 (w1.setCell ⟨mb,3,none⟩ (.slice (some ⟨gt,0,none⟩) (T.length+1) ct)):=.set h.lo.2.1 (by rw[j.ty];decide);have hd:=K.trans O;obtain⟨Y,f1,f2,f3⟩:=h.f;have a7:vt.ownBlock≠some g:=fun e=>by have:=Oe G g e;omega
 have E:Q.Ux g N w1 k:=by
  refine h.cur.bl ?_;have:=h.cur.2.1;exact⟨hg.os,hg.tape,hg.output,hg.size,fun q hq=>hg.block q (by omega) (fun e=>by have:=Oe G q e.symm;have:=h.lo.1;omega)⟩
 refine⟨⟨h.d.trans hd.f,E.bl ⟨rfl,rfl,rfl,by simp[World.setCell],fun q hq=>Jh _ _ _ _ (by have:=h.lo;show q≠mb;omega)⟩,j.set 3 _,h.lo,h.s,⟨Y,f1,?_,f3⟩,⟨X++[(t,vk)],by rw[Yk,V];rfl,?_,fun x hx W hW=>?_⟩,⟨h.db.ls,h.db.s,h.db.lf,h.db.f,by have:=h.db.lt;simp;omega,fun u hu=>?_⟩⟩,hd⟩
 ·exact Uf (own_other' f2 fun q hq=>hg.block q (f2.lt q hq).2 (fun e=>by
   obtain⟨c,fz,J⟩:=Ob f2 q hq;exact own q (by rw[U7 J];decide) e.symm)) (by rw[j.ty];decide)
 ·rw[Jq,Ze,Yx];have:=Uf (i:=3) (u:=.slice (some ⟨gt,0,none⟩) (T.length+1) ct) ho (by rw[j.ty];decide:Ix w1 mb≠some 38)
  simpa using this
 ·rcases Yc.1 hx with hx|hx
  ·exact Z x hx W hW
  rw[J5.1 hx];exact hk W hW
 rcases Yc.1 hu with hu|hu
 ·exact h.db.t u hu
 rw[J5.1 hu];exact ht
end Go.Proofs.YtfkagjelljnpdaaGreatDoor
namespace Go.Proofs.YtfkagjelljnpdaaGreatDoor
open ChangeShapes WideShapes ChangeAt RowKit Proofs.Tryz
variable {B N b g i k m mb q:Nat}{F:List Fn}{S:List (List UInt8)}{T:List Tm}{W W' w w0:World}{l:List Value}{v vf vs vt:Value}
def Ew(g N B mb:Nat)(w0 w:World)(vs vf:Value)(S:List (List UInt8))(F:List Fn)(n K m:Nat)(e:Ending)(w':World):Prop:=∃(i:Int) (k':Nat) (vt':Value) (T':List Tm),e=.returned (.int .i64 i)/\(-1<=i/\i<(T'.length:Int)/\n<=T'.length/\k'<=K)/\LBk g N B mb w0 w' vs vf vt' S F T' k' m/\G3 g B w w'
theorem RV(T:List Tm)(t:Tm) : -1<=Ed T t/\Ed T t<(T.length:Int):=by
 unfold Ed
 cases h:T.findIdx? (fun u=>Nl u t)with
 | none=>simp;omega
 | some i=>
   have:=(J9.1 h).1;simp;omega
theorem LBk.more{m':Nat}(h:LBk g N B mb w0 w vs vf vt S F T k m)(hm:m<=m'):LBk g N B mb w0 w vs vf vt S F T k m':=
 ⟨h.d,h.cur,h.box,h.lo,h.s,h.f,h.t,⟨h.db.ls,h.db.s,h.db.lf,h.db.f,Jm h.db.lt hm,h.db.t⟩⟩
theorem Dp(t:Tm)(vk:Value)(h:LBk g N B mb w0 w vs vf vt S F T k m)(hk:∀W,N9 g B w0 W->Q4 W vk t.kids)(ht:TmD t)(hm:m<=1000000) :
 Calls prog 46 #[.pointer (some ⟨mb,0,none⟩),G6 t vk] w (Ew g N B mb w0 w vs vf S F T.length k (m+1)):=by
 obtain⟨qk,dk,rfl,-,-,-⟩:=(hk w h.d).1;obtain⟨W0,a7⟩:=O2 (w.alloc (.cells #[.int .i64 t.op,.string (Oo t.sort),.string (Oo t.text),.int .i64 t.a,.int .i64 t.b,.slice qk t.kids.length dk] 38));have b6:Up w W0:=by rw[<-a7];exact Oy _ _
 have b7:Bx W0 w.heap.size [.int .i64 t.op,.string (Oo t.sort),.string (Oo t.text),.int .i64 t.a,.int .i64 t.b,.slice qk t.kids.length dk]:=by rw[<-a7];exact Oq w _ _
 have h0:=h.next b6;have g3:=Hd a7;have V:=Hd b6;have a1:=Hd b7;have c6:=Hd h0;have HK:=Hd hk;have HT:=Hd ht;have HM:=Hd h.db.lt;have g1:Hid (∀q,vt.ownBlock=some q->q<w.heap.size):=fun q hq=>by
  obtain⟨X0,e1,e2,e3⟩:=h.t;exact(e2.lt q hq).2
 have d1:=Hd (Cf vt _ T t W0.drew (h0.terms.bl (Ji _ _).drew) ((hk _ h0.d).1.bl (Ji _ _).drew));obtain⟨pt,ct,rfl,-,-,-⟩:=h.terms;obtain⟨c0,c1,c2,c3⟩:=h0.cells;obtain⟨x0,x1,x2,x3,x4,x5⟩:=b7.cs6;have b1:=Hd (RV T t);obtain⟨sk,e7⟩:∃s,Ed T t=s:=⟨_,rfl⟩;rw[e7]at b1 d1;clear h h0 hk ht a7 b6 b7 e7;unfold G6
 go_in
 go_upto_region 1 with fail
 rw[g3.o];refine Ph 8 rfl (S:=fun W=>W.cell? ⟨mb,3,none⟩=some (.slice pt T.length ct)/\W.cell? ⟨w.heap.size,0,none⟩=some (.int .i64 t.op)/\W.cell? ⟨w.heap.size,1,none⟩=some (.string (Oo t.sort))/\W.cell? ⟨w.heap.size,2,none⟩=some (.string (Oo t.text))/\W.cell? ⟨w.heap.size,3,none⟩=some (.int .i64 t.a)/\W.cell? ⟨w.heap.size,4,none⟩=some (.int .i64 t.b)/\W.cell? ⟨w.heap.size,5,none⟩=some (.slice qk t.kids.length dk)) (by kernel_rfl) (⟨c3,x0,x1,x2,x3,x4,x5⟩) (fun hHeld=>?_)
 iterate 6 (refine tkf 7 13 (v:=?_) rfl rfl (by kernel_rfl) (fun _ _ _ h=>h) (.inl ⟨by rfl,?_⟩) (by assumption) ?_;rotate_left;(intro w b4;(try dsimp only at b4);go_simp;(try with_reducible rfl));try simp only[Act.put,Ja,Je,Jf])
 refine wpAnyH_ready (rs:=[6]) (by kernel_rfl) (by simp) ?_;refine AllReadyH.cons rfl (fun K hK=>?_) AllReadyH.nil
 go_simp
 go_at_call 38
 refine d1.o.mono ?_;rintro e w1 ⟨rfl,J⟩;have E:Hid (Up W0 w1):=⟨J.os,J.tape,J.output,J.size,J.block⟩;clear J
 go_wp2_with fail
 refine hK.out _ _ (⟨(c6.o.next E.o).cells.2.2.2,(a1.o.bl a1.o.lt E.o).cs6⟩) (fun hHeld6=>?_);clear hK K
 try simp only[Act.put,Ja,Je,Jf]
 refine tk 7 5 (v:=?_) rfl rfl (by kernel_rfl) (fun _ _ _ h=>h) (.inl ⟨by rfl,?_⟩) (by assumption) ?_;rotate_left;(intro w b4;(try dsimp only at b4);go_simp;(try with_reducible rfl));try simp only[Act.put,Ja,Je,Jf];refine wpAnyH_done (by kernel_rfl) ?_ _;have j:=Hd (c6.o.next E.o);have b2:=Hd (a1.o.bl a1.o.lt E.o);clear hHeld hHeld6 c0 c1 c2 c3 x0 x1 x2 x3 x4 x5;obtain⟨c0,c1,c2,c3⟩:=j.o.cells
 by_cases hs:0<=sk
 ·have z1:decide (0<=sk)=true:=Jb hs
  go_wp2
  go_ret
  exact⟨sk,k,_,T,rfl,⟨b1.o.1,b1.o.2,leR,leR⟩,j.o.more (Y8 _),.up (V.o.trans (E.o.mono V.o.size))⟩
 have z1:decide (0<=sk)=false:=Jd hs;obtain⟨X,hX⟩:=j.o.t;have h5:=Hd hX;have g5:=b2.o.lt;have e4:(Value.slice pt T.length ct).ownBlock≠some w.heap.size:=fun e=>Nat.lt_irrefl _ (g1.o _ e);have j0:mb<w1.heap.size:=j.o.box.bx.lt;have e6:(Value.slice pt T.length ct).ownBlock≠some mb:=fun e=>by
  obtain⟨c,fz,h2⟩:=Ob hX.2.1 mb e;have:=U7 h2;rw[j.o.box.ty]at this;exact absurd this (by decide)
 have g9:=Hd e4;have d0:=Hd e6;obtain⟨x0,x1,x2,x3,x4,x5⟩:=b2.o.cs6;obtain⟨Z,hZ⟩:=O2 w1.heap.size;obtain⟨W2,a8⟩:∃W,(w1.alloc (.cells #[.int .i64 t.op,.string (Oo t.sort),.string (Oo t.text),.int .i64 t.a,.int .i64 t.b,.slice qk t.kids.length dk] 38)).drew=W:=⟨_,rfl⟩;have g2:Hid (W2.heap[Z]? = some (.cells (O5 (t,.slice qk t.kids.length dk)).toArray 38 (0,0))):=by
  unfold Hid;rw[<-hZ,<-a8];exact Js
 have O:Hid (Up w1 W2):=by unfold Hid;rw[<-a8];exact(Oy w1 _).drew
 have d6:=Hd a8;have d2:Hid (T.length<=1000000000/\B<=w1.heap.size):=⟨by have:=HM.o;omega,Jm j.o.lo.2.2 j.o.d.size⟩;have b3:=j.o.next O.o;have e0:X.map Prod.fst=T/\W2.ownsRow B 38 6 (.slice pt T.length ct) T.length (X.flatMap O5)/\∀x∈X,∀W,N9 g B w0 W->Q4 W x.2 x.1.kids:=⟨hX.1,own_other' hX.2.1 (fun q hq=>O.o.block q (hX.2.1.lt q hq).2),hX.2.2⟩;have Y:=Hd b3;have d7:=Hd e0;have g4:=Hd (b2.o.bl g5 O.o);have c8:Hid (mb<W2.heap.size/\w.heap.size<W2.heap.size):=⟨b3.box.bx.lt,g4.o.lt⟩;clear hX e4 e6 b3 e0 a8
 go_wp2_with fail
 have d5:=Y.o.cells.2.2.2;rw[<-d6.o]at d5
 go_region_law ((rw[d6.o];refine M5 (x:=(t,.slice qk t.kids.length dk)) (n:=T.length) (base:=B) (xs:=X.flatMap O5) (by rfl) _ _ (by rfl) (by rfl) d7.o.2.1 (by rfl) (by rfl) g2.o d2.o.1 (Jm d2.o.2 O.o.size) ?_;intro gt cn wa R G e5;have d3:=(G.cell_far ⟨mb,3,none⟩ c8.o.1 (Ne.symm d0.o)).trans Y.o.cells.2.2.2;have d4:=(G.frozen_far ⟨mb,3,none⟩ c8.o.1 (Ne.symm d0.o)).trans (Y.o.box.bx.fz 3)))
 all_goals
  have i7:T.length<=1000000:=Jm HM.o hm;have b0:=Hd (Y.o.putT d7.o HK.o HT.o R G);have HE:Hid (Ew g N B mb w0 w vs vf S F T.length k (m+1) (.returned (.int .i64 (T.length:Nat))) (wa.setCell ⟨mb,3,none⟩ (.slice (some ⟨gt,0,none⟩) (T.length+1) cn))):=⟨_,k,_,_,rfl,⟨by omega,by rw[Jq,Ze];omega,by rw[Jq];omega,leR⟩,b0.o.1,(DrX.up (V.o.trans ((E.o.trans (O.o.mono E.o.size)).mono V.o.size))).trans b0.o.2⟩;obtain⟨-,-,-,q3⟩:=b0.o.1.cells;clear d3 d4 d5 R G e5 c0 c1 c2 c3 x0 x1 x2 x3 x4 x5
  go_wp2
  go_ret
  exact HE.o
theorem UR(op:Int)(so:List UInt8)(ks:List Int)(vk:Value)(h:LBk g N B mb w0 w vs vf vt S F T k m)(hk:∀W,N9 g B w0 W->Q4 W vk ks)(ht:TmD ⟨op,so,[],0,0,ks⟩)(hm:m<=1000000) :
 Calls prog 52 #[.pointer (some ⟨mb,0,none⟩),.int .i64 op,.string (Oo so),vk] w (Ew g N B mb w0 w vs vf S F T.length k (m+1)):=by
 have q:=Hd (Dp ⟨op,so,[],0,0,ks⟩ vk h hk ht hm);unfold G6 at q;obtain⟨R,O,rfl,-,-,-⟩:=(hk w h.d).1;clear h hk ht
 go_in
 go_wp2_with fail
 refine q.o.mono ?_;rintro e w1 ⟨i,K,j,J,rfl,E⟩;have G:Hid (Ew g N B mb w0 w vs vf S F T.length k (m+1) (.returned (.int .i64 i)) w1):=⟨i,K,j,J,rfl,E⟩;clear E
 go_wp2
 go_ret
 exact G.o
theorem QQ(so:List UInt8)(tx:List UInt8)(h:LBk g N B mb w0 w vs vf vt S F T k m)(ht:TmD ⟨12,so,tx,0,0,[]⟩)(hm:m<=1000000) :
 Calls prog 95 #[.pointer (some ⟨mb,0,none⟩),.string (Oo so),.string (Oo tx)] w (Ew g N B mb w0 w vs vf S F T.length k (m+1)):=by
 have q:=Hd (Dp ⟨12,so,tx,0,0,[]⟩ (.slice none 0 0) h (fun W _=>⟨⟨none,0,rfl,leR,Jp _,.inl rfl⟩,.inl ⟨rfl,rfl⟩⟩) ht hm);unfold G6 at q;clear h ht
 go_in
 go_wp2_with fail
 refine q.o.mono ?_;rintro e w1 ⟨i,K,j,J,rfl,E⟩;have G:Hid (Ew g N B mb w0 w vs vf S F T.length k (m+1) (.returned (.int .i64 i)) w1):=⟨i,K,j,J,rfl,E⟩;clear E
 go_wp2
 go_ret
 exact G.o
theorem Mb(ng:Bool)(t:List Nat):Er (Q.Nc ng t).data.toList:=by
 have h:=Q.IY t;have j:(47:UInt8)∉Q.textD t:=fun hm=>by have:=h _ hm;unfold Q.P8 at this;exact absurd this.1 (by decide)
 unfold Er Q.Nc Q.Kc
 split
 ·decide
 split
 ·simp only[Ym,not_or];exact⟨by decide,j⟩
 exact j
theorem GN(own:List UInt8->Bool)(so:List UInt8)(h:so≠Nk):(Ou own so).kind≠3/\((Ou own so).kind=4->(Ou own so).width<=64):=by
 have hp:∀t,t≠Nk->(Oi own t).kind≠3/\((Oi own t).kind=4->(Oi own t).width<=64):=fun t ht=>by
  unfold Oi
  split
  ·exact⟨by decide,fun h=>by simp at h⟩
  split
  ·exact⟨by decide,fun h=>by simp at h⟩
  split
  ·rename_i e;exact absurd e ht
  split
  ·refine⟨by simp,fun _=>?_⟩
   show K3 t<=64
   unfold K3
   cases j:(List.range 65).find? (fun w=>decide (0<w)&&decide (Ex w=t))with
   | none=>simp
   | some w=>
     have:=Yg.1 (List.mem_of_find?_eq_some j);simp;omega
  split
  ·split
   ·exact⟨by decide,fun h=>by simp at h⟩
   exact⟨by decide,fun h=>by simp[SI.none]at h⟩
  exact⟨by decide,fun h=>by simp[SI.none]at h⟩
 unfold Ou
 split
 ·simp only
  split
  ·split
   ·exact⟨by simp,fun h=>by simp at h⟩
   exact⟨by decide,fun h=>by simp[SI.none]at h⟩
  exact⟨by decide,fun h=>by simp[SI.none]at h⟩
 exact hp so h
theorem Ie(w:World):Q4 w (.slice none 0 0) []:=⟨⟨none,0,rfl,leR,Jp _,.inl rfl⟩,.inl ⟨rfl,rfl⟩⟩
theorem Ih{op:Int}(h:0<=op/\op<=100)(ks:List Int)(h1:ks.length<=50)(h2:∀x∈ks,-10<=x/\x<=2000000):TmD ⟨op,Ok,[],0,0,ks⟩:=
 ⟨h,by simp,by simp,⟨by simp[Ok],by simp[Ok,Nk]⟩,⟨Jp _,by simp[Er]⟩,h1,h2⟩
theorem UT{tx:List UInt8}(h1:tx.length<=20000)(h2:Er tx):TmD ⟨12,[73,110,116],tx,0,0,[]⟩:=
 ⟨by simp,by simp,by simp,⟨by simp,by simp[Nk]⟩,⟨h1,h2⟩,Jp _,fun x hx=>absurd hx Yi⟩
theorem Nw(h:Bx W b l)(hb:Q.Bar g W W')(hg:b≠g):Bx W' b l:=by
 have j:=h.lt;obtain⟨ty,hh⟩:=h;exact⟨ty,(hb.block b j hg).trans hh⟩
theorem LBk.set(h:LBk g N B mb w0 w vs vf vt S F T k m)(hq:w0.heap.size<=q)(ht:Ix w q∉XL):LBk g N B mb w0 (w.setCell ⟨q,i,none⟩ v) vs vf vt S F T k m:=by
 obtain⟨X,E,G,J⟩:=h.f;obtain⟨Y,K,f2,f3⟩:=h.t;have hl:=h.lo;have j:mb≠q:=fun e=>by
  subst e;rw[h.box.ty]at ht;exact ht (by decide)
 refine⟨⟨h.d.os,h.d.tape,h.d.output,Jm h.d.size (by simp[World.setCell]),fun p hp hpg hk=>?_⟩,h.cur.bl ⟨rfl,rfl,rfl,by simp[World.setCell],fun p hp=>Jh _ _ _ _ (by show p≠q;omega)⟩,(Jh _ _ _ _ j).trans h.box,hl,h.s,⟨X,E,Uf G (fun e=>ht (by rw[e];decide)),J⟩,⟨Y,K,Uf f2 (fun e=>ht (by rw[e];decide)),f3⟩,h.db⟩;exact(Jh _ _ _ _ (by show p≠q;omega)).trans (h.d.block p hp hpg hk)
theorem N8{t:TypeId}(h:Tb W b t l)(hb:Q.Bar g W W')(hg:b≠g):Tb W' b t l:=(hb.block b h.bx.lt hg).trans h
theorem VI{t:TypeId}(h:Tb W b t l)(hb:Up W W'):Tb W' b t l:=(hb.block b h.bx.lt).trans h
theorem DC(wd:Nat)(w:World)(hw:wd<=64):(Instr.makeSlice 22 (.int .i64 (wd:Nat)) (.int .i64 (wd:Nat))).run prog w=.ok (.slice (some ⟨w.heap.size,0,none⟩) wd wd) (w.alloc (.cells (Qr (List.replicate wd 0)).toArray 5)):=by
 obtain⟨i,q,E,j,G⟩:∃i:TypeInfo,prog.info? 5=some i/\i.zero=some (.int .u8 0)/\i.size=1/\i.bytes=1:=⟨_,rfl,rfl,rfl,rfl⟩;have h:=run_makeSlice (P:=prog) w 22 5 i _ underlying22 q E .i64 .i64 (wd:Nat) (wd:Nat) (by omega) (by omega) (by rw[j];omega) (by rw[G];omega) (by omega);have e:madeCells (Value.cells (.int .u8 0)) wd=(Qr (List.replicate wd 0)).toArray:=by
  apply Array.ext'
  show(madeCells #[Value.int .u8 0] wd).toList=_
  rw[toList_madeCells_one];simp[Qr]
 rw[h,Y7,j,Nat.mul_one,e]
theorem PW{wd:Nat}{L:List UInt8}(h:Bx W q (Qr L))(hl:L.length=wd):(convert 22 9 (.slice (some ⟨q,0,none⟩) wd wd)).run prog W=.ok (.string (Oo L)) W:=by
 subst hl;exact run_convert_bytes_back (P:=prog) W 22 9 5 ⟨q,0,none⟩ L.length L underlying22 underlying5 underlying9 (fun i hi=>by
  rw[Addr.add_lit,h.cell,Nat.zero_add];unfold Qr;rw[Yt,Jg hi];rfl)
theorem DrX.far{ts:List (Option TypeId)}(h:DrX g B ts w0 w)(hq:w0.heap.size<=q):DrX g B ts w0 (w.setCell ⟨q,i,none⟩ v):=
 ⟨h.os,h.tape,h.output,Jm h.size (by simp[World.setCell]),fun p hp hpg hk=>(Jh _ _ _ _ (by show p≠q;omega)).trans (h.block p hp hpg hk)⟩
theorem RD(u:ByteArray):∃tx,u=Oo tx/\tx=u.data.toList:=⟨u.data.toList,by unfold Oo;simp,rfl⟩
theorem Ew.from{w1 w':World}{n n' K K' m':Nat}{e:Ending}(h:Ew g N B mb w0 w1 vs vf S F n K m e w')(hd:G3 g B w w1)(hn:n'<=n)(hK:K<=K')(hm:m<=m'):Ew g N B mb w0 w vs vf S F n' K' m' e w':=by
 obtain⟨i,O,j,q,rfl,⟨E,G,R,V⟩,J,h6⟩:=h;exact⟨i,O,j,q,rfl,⟨E,G,by omega,by omega⟩,J.more hm,hd.trans h6⟩
theorem Tt(so:List UInt8)(h:LBk g N B mb w0 w vs vf vt S F T k m)(hso:so.length<=20000/\so≠Nk)(hm:m<=1000000)(hk:k<=100000000) :
 Calls prog 78 #[.pointer (some ⟨mb,0,none⟩),.string (Oo so)] w (Ew g N B mb w0 w vs vf S F T.length (k+7000) (m+1)):=by
 have HL:=Hd h;have n5:(Oo so).size<=1048576:=by show so.toArray.size<=_;have:=hso.1;simp;omega
 have d0:=Hd (Ef vs S (Oo so) w (h.s w h.d).1 n5);obtain⟨r1,r2⟩:=GN (On S) so hso.2;rw[Ov]at d0;generalize Ou (On S) so=X at *;obtain⟨kd,wd,ix,el⟩:=X;simp only at r1 r2;unfold Gu at d0;obtain⟨c0,c1,c2,c3⟩:=h.cells;obtain⟨p0,q0,rfl,-,-,-⟩:=(h.s w h.d).1;have l2:=Hd hso;clear h hso
 go_in
 go_wp2_with fail
 refine d0.o.mono ?_;rintro e w1 ⟨rfl,e9⟩;obtain⟨V,d1⟩:∃W,w1.alloc (.cells #[.int .i64 kd,.int .i64 (wd:Nat),.string (Oo ix),.string (Oo el)] 145)=W:=⟨_,rfl⟩;have hb2:Up w1 V:=by rw[<-d1];exact Oy _ _
 have f8:Bx V w1.heap.size [.int .i64 kd,.int .i64 (wd:Nat),.string (Oo ix),.string (Oo el)]:=by rw[<-d1];exact Oq _ _ _
 have Y:Hid (Up w V):=e9.trans (hb2.mono e9.size);have p8:=Hd f8;have G:=Hd (HL.o.next Y.o);have l3:=Hd d1;have HG:=Hd HL.o.gB;obtain⟨x0,x1,-,-⟩:=f8.c4;clear e9 hb2 d0 f8 d1 c0 c1 c2 c3;obtain⟨c0,c1,c2,c3⟩:=G.o.cells
 go_upto_region 3 with fail
 rw[l3.o]
 by_cases q1:kd=1
 ·subst q1
  go_wp2_with fail
  refine(Q.Oj g N k 2 _ G.o.cur (by omega) (by decide) (by decide)).mono ?_;rintro e w3 ⟨r,k3,rfl,hr,m9,b4,E⟩;have O:=Hd (G.o.up E b4);have Z:Hid (G3 g B w w3):=(DrX.up Y.o).trans (.bar E);have l1:Hid (Calls prog 52 #[.pointer (some ⟨mb,0,none⟩),.int .i64 (1+(r:Nat)),.string ⟨#[66,111,111,108]⟩,.slice none 0 0] w3 (Ew g N B mb w0 w3 (.slice p0 S.length q0) vf S F T.length k3 (m+1))):=UR (1+(r:Nat)) Ok [] (.slice none 0 0) O.o (fun W _=>Ie W) (Ih (by omega) [] (by simp) (by simp)) hm;clear b4 E x0 x1 c0 c1 c2 c3
  go_wp2_with fail
  refine l1.o.mono ?_;rintro e w4 h4;obtain⟨i,k',b7,T',rfl,h5⟩:=h4;have HR:Hid (Ew g N B mb w0 w (.slice p0 S.length q0) vf S F T.length (k+7000) (m+1) (.returned (.int .i64 i)) w4):=Ew.from ⟨i,k',b7,T',rfl,h5⟩ Z.o leR (by omega) leR
  clear h5
  go_wp2
  go_ret
  exact HR.o
 have n1:(kd==1)=false:=by rw[Jc];exact q1
 by_cases q2:kd=2
 ·subst q2
  go_wp2_with fail
  refine(Q.Oj g N k 13 _ G.o.cur (by omega) (by decide) (by decide)).mono ?_;rintro e w3 ⟨r,k3,rfl,hr,m9,b4,E⟩;have O:=Hd (G.o.up E b4);have Z:Hid (G3 g B w w3):=(DrX.up Y.o).trans (.bar E);clear b4 E x0 x1 c0 c1 c2 c3 n1 q1
  go_wp2_with fail
  refine(Q.Xc _ w3 (by omega) (by omega)).mono ?_;rintro e w4 ⟨z,rfl,hz,d4⟩;obtain⟨z0,zn,za,zl,zc,rfl⟩:∃(z0:Int) (zn:Bool) (za:Option Addr) (zl zc:Nat),z=.agg #[.int .i64 z0,.bool zn,.slice za zl zc]:=by
   obtain⟨ng,t,h1,-,-⟩:=hz;exact h1.shape
  obtain⟨W5,d3⟩:∃W,w4.alloc (.cells #[.int .i64 z0,.bool zn,.slice za zl zc] 131)=W:=⟨_,rfl⟩;have f5:Up w4 W5:=by rw[<-d3];exact Oy _ _
  have i8:Tb W5 w4.heap.size 131 [.int .i64 z0,.bool zn,.slice za zl zc]:=by rw[<-d3];exact Js
  have l9:=Hd (hz.bl f5);have g0:Hid (Up w3 W5):=d4.trans (f5.mono d4.size);have g4:=Hd (O.o.next g0.o);have j8:Hid (G3 g B w W5):=Z.o.trans (.up g0.o);have l6:=Hd i8;have c8:Hid (g<w3.heap.size):=Jn O.o.cur.1 O.o.cur.2.1;have a1:Hid (w3.heap.size<=w4.heap.size):=d4.size;have l4:=Hd d3;clear hz d4 f5 i8 d3
  go_upto_region 8 with fail
  rw[l4.o]
  go_wp2_with fail
  refine(Q.Oj g N k3 12 _ g4.o.cur (by omega) (by decide) (by decide)).mono ?_;rintro e w6 ⟨r6,k6,rfl,r9,n0,b5,J⟩;have b0:=Hd (g4.o.up J b5);have c6:Hid (G3 g B w w6):=j8.o.trans (.bar J);have a7:Hid (Tb w6 w4.heap.size 131 [.int .i64 z0,.bool zn,.slice za zl zc]):=N8 l6.o J (by have:=c8.o;have:=a1.o;omega);have m0:=Hd (l9.o.bar J c8.o);clear b5 J
  by_cases h6:r6=0
  case' pos=>
   have z6:((r6:Int)==0)=true:=by rw[J2];omega
   clear h6
   go_wp2_with fail
   refine(Q.Oj g N k6 28 _ b0.o.cur (by omega) (by decide) (by decide)).mono ?_;rintro e w7 ⟨r7,k7,rfl,s3,r5,h8,d5⟩;have g5:=Hd (b0.o.up d5 h8);have j9:Hid (G3 g B w w7):=c6.o.trans (.bar d5);have l7:Hid (Tb w7 w4.heap.size 131 [.int .i64 z0,.bool zn,.slice za zl zc]):=N8 a7.o d5 (by have:=c8.o;have:=a1.o;omega);clear h8 d5
   go_wp2_with fail
   refine(Q.XX g N k7 (1+r7) _ w7 g5.o.cur (by push_cast;rfl) (by omega) (by omega) (by omega)).mono ?_;rintro e w8 ⟨u,k8,rfl,i6,n6,r8,h9,d6⟩;have HU:=Hd i6;have k1:=Hd (g5.o.up d6 h9);have k0:Hid (G3 g B w w8):=j9.o.trans (.bar d6);have h0:Hid (Tb w8 w4.heap.size 131 [.int .i64 z0,.bool zn,.slice za zl zc]):=N8 l7.o d6 (by have:=c8.o;have:=a1.o;omega);clear h9 d6 i6 n6
   go_wp2_with fail
   refine(Q.Cp u w8 HU.o).mono ?_;rintro e w9 ⟨z,rfl,hz,b3⟩;obtain⟨t0,tn,ta,tl,tc,rfl⟩:=hz.shape;have j7:=Hd b3;have k9:=Hd (k1.o.next b3);have b2:=Hd (VI h0.o b3);have q3:=Hd hz;have e8:w4.heap.size<w8.heap.size:=h0.o.bx.lt;obtain⟨a8,q⟩:=O2 (((w9.setCell ⟨w4.heap.size,0,none⟩ (.int .i64 t0)).setCell ⟨w4.heap.size,1,none⟩ (.bool tn)).setCell ⟨w4.heap.size,2,none⟩ (.slice ta tl tc));have h3:Hid (Q.Q5 w8.heap.size a8 (.agg #[.int .i64 t0,.bool tn,.slice ta tl tc]) (Q.Ur u) (Q.O0 (Q.Uy (Q.dgs u).data.toList))):=by
    unfold Hid;rw[<-q];exact((hz.setCell _ _ e8).setCell _ _ e8).setCell _ _ e8
   have g9:Hid (Tb a8 w4.heap.size 131 [.int .i64 t0,.bool tn,.slice ta tl tc]):=by
    unfold Hid;rw[<-q];exact((b2.o.set 0 _).set 1 _).set 2 _
   obtain⟨c0,c1,c2⟩:=b2.o.bx.c3;obtain⟨f0,f1,f2⟩:=b2.o.bx.f3;have hw4:w0.heap.size<=w4.heap.size:=Jm O.o.d.size a1.o;have g3:Hid (LBk g N B mb w0 a8 (.slice p0 S.length q0) vf vt S F T k8 m):=by
    have s1:=b2.o.set 0 (.int .i64 t0);have s2:=s1.set 1 (.bool tn);unfold Hid;rw[<-q];exact((k9.o.set hw4 (by rw[b2.o.ty];decide)).set hw4 (by rw[s1.ty];decide)).set hw4 (by rw[s2.ty];decide)
   have g1:Hid (G3 g B w a8):=by
    have hw:w.heap.size<=w4.heap.size:=Jm Z.o.size a1.o;unfold Hid;rw[<-q];exact(((k0.o.trans (.up b3)).far hw).far hw).far hw
   have b1:Hid (w8.heap.size<=a8.heap.size/\(Q.O0 (Q.Uy (Q.dgs u).data.toList)).length<=600):=⟨by rw[<-q];simp only[World.setCell,Zf];exact j7.o.size,Jm (Q.Cm u HU.o) (by decide)⟩;have g8:=Hd q;clear hz b3 hw4 q
   go_upto_region 10 with fail
   rw[g8.o];obtain⟨e0,e1,e2⟩:=g9.o.bx.c3;clear c0 c1 c2 f0 f1 f2
   go_wp2_with fail
   refine(Q.Is w8.heap.size _ _ _ a8 h3.o b1.o.1 b1.o.2).mono ?_;rintro e R ⟨rfl,K⟩;have hf:=Q.Bd (Q.Um (Q.Ur u) (Q.O0 (Q.Uy (Q.dgs u).data.toList))) (Q.O0 (Q.Uy (Q.dgs u).data.toList)) b1.o.2;have hn:=Mb (Q.Um (Q.Ur u) (Q.O0 (Q.Uy (Q.dgs u).data.toList))) (Q.O0 (Q.Uy (Q.dgs u).data.toList));obtain⟨U,hU⟩:=O2 (Q.Nc (Q.Um (Q.Ur u) (Q.O0 (Q.Uy (Q.dgs u).data.toList))) (Q.O0 (Q.Uy (Q.dgs u).data.toList)));rw[hU]at hf hn ⊢;obtain⟨tx,rfl,d8⟩:=RD U;have g7:Hid (Calls prog 95 #[.pointer (some ⟨mb,0,none⟩),.string ⟨#[73,110,116]⟩,.string (Oo tx)] R (Ew g N B mb w0 R (.slice p0 S.length q0) vf S F T.length k8 (m+1))):=QQ [73,110,116] tx (g3.o.next K) (UT (by rw[Q0]at hf;exact Jm hf (by decide)) (by rw[<-d8]at hn;exact hn)) hm;have e4:Hid (G3 g B w R):=g1.o.trans (.up K)
  case' neg=>
   have z6:((r6:Int)==0)=false:=by rw[Jc];omega
   obtain⟨ng,t,hz,-,ht⟩:=m0.o;obtain⟨e0,e1,e2⟩:=a7.o.bx.c3;have HZ:=Hd hz;have b1:Hid (w3.heap.size<=w6.heap.size):=Jm a1.o (Zj a7.o.bx.lt);clear hz h6
   go_wp2_with fail
   refine(Q.Is w3.heap.size _ ng t w6 HZ.o b1.o (by omega)).mono ?_;rintro e R ⟨rfl,K⟩;have hf:=Q.Bd (Q.Um ng t) t (by omega);have hn:=Mb (Q.Um ng t) t;obtain⟨U,hU⟩:=O2 (Q.Nc (Q.Um ng t) t);rw[hU]at hf hn ⊢;obtain⟨tx,rfl,d8⟩:=RD U;have g7:Hid (Calls prog 95 #[.pointer (some ⟨mb,0,none⟩),.string ⟨#[73,110,116]⟩,.string (Oo tx)] R (Ew g N B mb w0 R (.slice p0 S.length q0) vf S F T.length k6 (m+1))):=QQ [73,110,116] tx (b0.o.next K) (UT (by rw[Q0]at hf;exact Jm hf (by decide)) (by rw[<-d8]at hn;exact hn)) hm;have e4:Hid (G3 g B w R):=c6.o.trans (.up K)
  all_goals
   clear K hf hn hU d8 e0 e1 e2
   go_wp2_with fail
   refine g7.o.mono ?_;rintro e o4 ⟨i,k',b7,T',rfl,h5⟩;have HR:Hid (Ew g N B mb w0 w (.slice p0 S.length q0) vf S F T.length (k+7000) (m+1) (.returned (.int .i64 i)) o4):=Ew.from ⟨i,k',b7,T',rfl,h5⟩ e4.o leR (by omega) leR
   clear h5
   go_wp2
   go_ret
   exact HR.o
 have n2:(kd==2)=false:=by rw[Jc];exact q2
 have n3:(kd==3)=false:=by rw[Jc];exact r1
 by_cases q4:kd=4
 ·subst q4;have n8:=r2 rfl;obtain⟨W3,d2⟩:∃W,V.alloc (.cells (Qr (List.replicate wd 0)).toArray 5)=W:=⟨_,rfl⟩;have i1:=DC wd V n8;rw[d2]at i1;have E:Up V W3:=by rw[<-d2];exact Oy _ _
  have i7:Tb W3 V.heap.size 5 (Qr (List.replicate wd 0)):=by rw[<-d2];exact Js
  have l5:=Hd i7;have O:=Hd (G.o.next E);have Z:Hid (G3 g B w W3):=(DrX.up Y.o).trans (.up E);have HGQ:Hid (V.heap.size≠g/\w0.heap.size<=V.heap.size/\w.heap.size<=V.heap.size):=⟨by have:=G.o.cur.1;have:=G.o.cur.2.1;omega,G.o.d.size,Y.o.size⟩;clear E i7 d2 r1 r2
  go_wp2_with fail
  clear i1 c0 c1 c2 c3 x0 x1
  go_loopw [9,70] (fun _ iv wr=>∃(i k5:Nat) (L:List UInt8),i<=wd/\iv=.int .i64 (i:Nat)/\L.length=wd/\Er L/\k5<=k+2*i/\Tb wr V.heap.size 5 (Qr L)/\LBk g N B mb w0 wr (.slice p0 S.length q0) vf vt S F T k5 m/\G3 g B w wr) (fun _ iv _=>wd - (intOf iv).toNat)
  case atStart=>exact⟨0,k,List.replicate wd 0,Jp _,rfl,by simp,by simp[Er],leR,l5.o,O.o,Z.o⟩
  rename World=>wr
  obtain⟨i,k5,L,hi,rfl,hl,hn,r4,hx,hL,hD⟩:=hrel;have g6:=Hd hL;have l8:=Hd hx;have g2:=Hd hD;have l0:=Hd hn
  by_cases d7:i<wd
  ·have z1:decide ((i:Int)<(wd:Int))=true:=Jb (by omega);have z2:decide (i<wd)=true:=Jb d7;clear hx hL hD hn
   go_wp2_with fail
   refine(Q.Oj g N k5 2 _ g6.o.cur (by omega) (by decide) (by decide)).mono ?_;rintro e w6 ⟨r,k6,rfl,hr,n0,b5,J⟩;have d9:=N8 l8.o J HGQ.o.1;have b0:=Hd (g6.o.up J b5);have c6:Hid (G3 g B w w6):=g2.o.trans (.bar J);obtain⟨u,hu⟩:∃u,(Qr L)[i]? = some u:=⟨_,Jg (by simp[Qr,hl];exact d7)⟩;have m7:w6.cell? ⟨V.heap.size,i,none⟩=some u:=by rw[d9.bx.cell];exact hu
   have r3:w6.frozen? ⟨V.heap.size,i,none⟩=false:=d9.bx.fz _;have a7:=Hd d9;have p3:(i:Int)<(wd:Int):=by omega
   clear b5 J d9 hu
   go_wp2
   go_roundw
   case rel=>
    refine⟨i+1,k6,L.set i (UInt8.ofNat (48+r)),d7,by go_num,by simp[hl],?_,by omega,?_,b0.o.set HGQ.o.2.1 (by rw[a7.o.ty];decide),c6.o.far HGQ.o.2.2⟩
    ·unfold Er;intro hm
     rcases Zv hm with h|h
     ·exact l0.o h
     have h2:=congrArg UInt8.toNat h;have:r=0∨r=1:=by omega
     rcases this with rfl|rfl<;>exact absurd h2 (by decide)
    have e:Qr (L.set i (UInt8.ofNat (48+r)))=(Qr L).set i (.int .u8 (48+(r:Nat))):=by
     unfold Qr;rw[List.map_set]
     congr 1
     have:r=0∨r=1:=by omega
     rcases this with rfl|rfl<;>rfl
    rw[e];exact a7.o.set i _
   simp[intOf];omega
  have z1:decide ((i:Int)<(wd:Int))=false:=Jd (by omega);have z2:decide (i<wd)=false:=Jd d7;have m8:=PW hx.bx hl;have f9:Hid (Calls prog 46 #[.pointer (some ⟨mb,0,none⟩),.agg #[.int .i64 24,.string (Oo so),.string (Oo L),.int .i64 0,.int .i64 0,.slice none 0 0]] wr (Ew g N B mb w0 wr (.slice p0 S.length q0) vf S F T.length k5 (m+1))):=
   Dp ⟨24,so,L,0,0,[]⟩ (.slice none 0 0) hL (fun W _=>Ie W) ⟨by simp,by simp,by simp,l2.o,⟨by simp only;omega,hn⟩,by simp,by simp⟩ hm
  clear hx hL hD hn
  go_wp2_with fail
  refine f9.o.mono ?_;rintro e w7 ⟨j,k',b7,T',rfl,h5⟩;have HR:Hid (Ew g N B mb w0 w (.slice p0 S.length q0) vf S F T.length (k+7000) (m+1) (.returned (.int .i64 j)) w7):=Ew.from ⟨j,k',b7,T',rfl,h5⟩ g2.o leR (by omega) leR
  clear h5 m8
  go_wp2
  go_ret
  exact HR.o
 have n4:(kd==4)=false:=by rw[Jc];exact q4
 have HR:Hid (Ew g N B mb w0 w (.slice p0 S.length q0) vf S F T.length (k+7000) (m+1) (.returned (.int .i64 (-1))) V):=⟨-1,k,vt,T,rfl,⟨by omega,by omega,leR,by omega⟩,G.o.more (Y8 _),.up Y.o⟩;clear q1 q2 q4 r1 r2
 go_wp2
 go_ret
 exact HR.o
theorem Fj(h:TermsAt w v T)(hi:i<T.length):∃bt c,v=.slice (some ⟨bt,0,none⟩) T.length c/\bt<w.heap.size/\w.cell? ⟨bt,i*6,none⟩=some (.int .i64 T[i].op)/\w.cell? ⟨bt,i*6+1,none⟩=some (.string (Oo T[i].sort)):=by
 obtain⟨p,c,rfl,-,-,j⟩:=h
 rcases j with j|⟨b,rfl,hb,q⟩
 ·subst j;exact absurd hi (Jz _)
 exact⟨b,c,rfl,hb,(q i hi).1,(q i hi).2.1⟩
theorem Dq(so:List UInt8)(h:LBk g N B mb w0 w vs vf vt S F T k m)(hso:so.length<=20000/\so≠Nk)(hm:m<=65000)(hk:k<=90000000) :
 Calls prog 54 #[.pointer (some ⟨mb,0,none⟩),.string (Oo so)] w (Ew g N B mb w0 w vs vf S F T.length (k+8000) (m+1)):=by
 have HL:=Hd h;have d7:=Hd hso;have e8:=Hd h.db.lt;obtain⟨pt,ct,rfl,-,-,-⟩:=h.terms;obtain⟨c0,c1,c2,c3⟩:=h.cells;clear h hso
 go_in
 go_wp2_with fail
 clear c0 c1 c2 c3
 go_loopw [5,6,14] (fun v _ iv wr=>∃(i:Nat) (M:List Nat),i<=T.length/\iv=.int .i64 (i:Nat)/\M.length<=i/\(∀x∈M,x<T.length)/\wr.ownsRow w.heap.size 3 1 v M.length (labV M)/\Up w wr) (fun _ _ iv _=>T.length - (intOf iv).toNat)
 case atStart=>exact⟨0,[],Jp _,rfl,leR,fun x hx=>absurd hx Yi,K5 _ _ _ _,Ji _ _⟩
 rename World=>wr
 obtain⟨i,M,hi,rfl,hM,d9,ho,hb⟩:=hrel;obtain⟨pm,cm,rfl⟩:=V6 ho;have HO:=Hd ho;have HB:=Hd hb;have b0:=Hd d9;have K:=Hd (HL.o.next hb);have g5:T.length<=65000:=Jm e8.o hm;clear ho hb d9
 by_cases V:i<T.length
 ·have z1:decide ((i:Int)<(T.length:Int))=true:=Jb (by omega);have z2:decide (i<T.length)=true:=Jb V;have i1:(i:Int)<(T.length:Int):=by omega
  obtain⟨bt,g9,e,-,-,t1⟩:=Fj K.o.terms V;simp only[Value.slice.injEq,true_and]at e;obtain⟨rfl,rfl⟩:=e;obtain⟨c0,c1,c2,c3⟩:=K.o.cells
  by_cases hs:T[i].sort=so
  ·rw[hs]at t1
   go_wp2_with (refine Ke (y:=i) (base:=w.heap.size) (N:=M) rfl _ _ rfl rfl HO.o _ rfl rfl (by omega) HB.o.size ?_)
   intro v' W' b9 e0;obtain⟨pn,cn,rfl⟩:=V6 b9;have HR:Hid (Up w W'):=HB.o.trans ((Oy _ _).mono HB.o.size |>.trans e0);have e7:=Hd b9;clear b9 e0 c0 c1 c2 c3 t1
   go_wp2
   go_roundw
   case rel=>exact⟨i+1,M++[i],V,by go_num,by simp;omega,fun x hx=>(Yc.1 hx).elim (b0.o x) (fun h=>by rw[J5.1 h];exact V),by rw[Jq];exact e7.o,HR.o⟩
   simp[intOf];omega
  have h8:=Q1 (fun e=>hs (Hy e):Oo T[i].sort≠Oo so)
  go_wp2
  go_roundw
  case rel=>exact⟨i+1,M,V,by go_num,by omega,b0.o,HO.o,HB.o⟩
  simp[intOf];omega
 have z1:decide ((i:Int)<(T.length:Int))=false:=Jd (by omega);have z2:decide (i<T.length)=false:=Jd V;have HD:Hid (G3 g B w wr):=DrX.up HB.o;have Y:Hid (g<w.heap.size):=Jn HL.o.cur.1 HL.o.cur.2.1;have g8:Hid (∀q,(Value.slice pm M.length cm).ownBlock=some q->w.heap.size<=q):=fun q hq=>Oe HO.o q hq;obtain⟨c0,c1,c2,c3⟩:=K.o.cells
 by_cases d8:M.length=0
 ·have R:=Hd (Tt so K.o d7.o (by omega) (by omega));rw[d8];clear c0 c1 c2 c3;obtain⟨c0,c1,c2,c3⟩:=K.o.cells
  go_wp2_with fail
  refine R.o.mono ?_;rintro e w4 ⟨j,k4,b3,T4,rfl,⟨j1,j2,j3,j4⟩,J,G⟩;have HR:Hid (∀i:Int,-1<=i->i<(T4.length:Int)->Ew g N B mb w0 w vs vf S F T.length (k+8000) (m+1) (.returned (.int .i64 i)) w4):=fun i h1 h2=>⟨i,k4,b3,T4,rfl,⟨h1,h2,j3,by omega⟩,J,HD.o.trans G⟩;clear J G R
  by_cases hj:0<=j
  ·have y3:decide (0<=j)=true:=Jb hj
   go_wp2
   go_ret
   exact HR.o j j1 j2
  have y3:decide (0<=j)=false:=Jd hj
  go_wp2
  go_ret
  exact HR.o (-1) (by omega) (by omega)
 have y1:((M.length:Int)==0)=false:=by rw[Jc];omega
 obtain⟨bq,rfl⟩:∃b,pm=some ⟨b,0,none⟩:=by
  obtain⟨p,c,e,-,-,h⟩:=Kp HO.o;simp only[Value.slice.injEq,true_and]at e;obtain⟨rfl,rfl⟩:=e
  rcases h with h|⟨b,rfl,-⟩
  ·exact absurd h d8
  exact⟨b,rfl⟩
 go_wp2_with fail
 refine(Q.Oj g N k 7 _ K.o.cur (by omega) (by decide) (by decide)).mono ?_;rintro e w3 ⟨r,k3,rfl,hr,h5,e1,b1⟩;have b6:=Hd (K.o.up b1 e1);have b4:Hid (G3 g B w w3):=HD.o.trans (.bar b1);have d4:=Hd ((DrX.bar b1:G3 g B wr w3).own HO.o Y.o (by decide));clear e1 b1 c0 c1 c2 c3;obtain⟨c0,c1,c2,c3⟩:=b6.o.cells
 by_cases h0:r=0
 case' pos=>
  have y2:((r:Int)==0)=true:=by rw[J2];omega
  have R:=Hd (Tt so b6.o d7.o (by omega) (by omega))
  go_wp2_with fail
  refine R.o.mono ?_;rintro e w4 ⟨j,k4,b3,T4,rfl,⟨j1,j2,j3,j4⟩,J,G⟩
  by_cases hj:0<=j
  case' pos=>
   have y3:decide (0<=j)=true:=Jb hj;have HR:Hid (Ew g N B mb w0 w vs vf S F T.length (k+8000) (m+1) (.returned (.int .i64 j)) w4):=⟨j,k4,b3,T4,rfl,⟨j1,j2,j3,by omega⟩,J,b4.o.trans G⟩;clear J G R c0 c1 c2 c3
   go_wp2
   go_ret
   exact HR.o
  have y3:decide (0<=j)=false:=Jd hj;have a8:=Hd J;have d1:Hid (G3 g B w w4):=b4.o.trans G;have d5:=Hd (G.own d4.o Y.o (by decide));have f0:k4<=k+7002:=by omega
  have b8:T.length<=T4.length:=j3;obtain⟨⟨i7,h3,rfl,-,-,-⟩,-⟩:TermsAt w4 b3 T4/\True:=⟨J.terms,trivial⟩;clear J G R c0 c1 c2 c3;obtain⟨c0,c1,c2,c3⟩:=a8.o.cells
  go_wp2_with fail
 case' neg=>
  have y2:((r:Int)==0)=false:=by rw[Jc];omega
  have a8:=Hd (b6.o.more (Y8 m));have d1:=b4;have d5:=d4;have f0:k3<=k+7002:=by omega
  have b8:T.length<=T.length:=leR
  go_wp2_with fail
 all_goals
  refine(Q.Oj g N _ 2 _ a8.o.cur (by omega) (by decide) (by decide)).mono ?_;rintro e w6 ⟨r6,k6,rfl,h9,h7,e2,b2⟩;have Z:=Hd (a8.o.up b2 e2);have d2:Hid (G3 g B w w6):=d1.o.trans (.bar b2);have d6:=Hd ((DrX.bar b2:G3 g B _ w6).own d5.o Y.o (by decide));clear e2 b2 c0 c1 c2 c3;obtain⟨c0,c1,c2,c3⟩:=Z.o.cells
  by_cases h6:r6=0/\4<M.length
  ·have y4:((r6:Int)==0)=true:=by rw[J2];omega
   have y5:decide ((4:Int)<(M.length:Int))=true:=Jb (by omega);have y6:decide (4<M.length)=true:=Jb h6.2
   go_wp2_with fail
   refine(Q.Oj g N _ 4 _ Z.o.cur (by omega) (by decide) (by decide)).mono ?_;rintro e w7 ⟨r7,k7,rfl,f9,f1,a1,E⟩;have b7:=Hd (Z.o.up E a1);have b5:Hid (G3 g B w w7):=d2.o.trans (.bar E);have a7:=(DrX.bar E:G3 g B w6 w7).own d6.o Y.o (by decide);obtain⟨q,hq⟩:∃q:Nat,(M.length:Int) - 1 - (r7:Int)=q:=⟨_,(Int.toNat_of_nonneg (by omega)).symm⟩;have O:q<M.length:=by omega
   have e9:=(Nz a7 O).1;have e4:labA M q<T.length:=by rw[O1 O];exact b0.o _ (Jj O)
   have f8:(q:Int)<(M.length:Int):=by omega
   clear a1 E a7 c0 c1 c2 c3
   go_wp2
   go_ret
   exact⟨_,k7,_,_,rfl,⟨by omega,by omega,b8,by omega⟩,b7.o,b5.o⟩
  by_cases h4:r6=0
  case' pos=>
   have y4:((r6:Int)==0)=true:=by rw[J2];omega
   have y5:decide ((4:Int)<(M.length:Int))=false:=Jd (by omega);have y6:decide (4<M.length)=false:=Jd (by omega)
   go_wp2_with fail
  case' neg=>
   have y4:((r6:Int)==0)=false:=by rw[Jc];omega
   go_wp2_with fail
  all_goals
   refine(Q.Oj g N _ M.length _ Z.o.cur (by omega) (by omega) (by omega)).mono ?_;rintro e w7 ⟨r7,k7,rfl,f9,f1,a1,E⟩;have b7:=Hd (Z.o.up E a1);have b5:Hid (G3 g B w w7):=d2.o.trans (.bar E);have a7:=(DrX.bar E:G3 g B w6 w7).own d6.o Y.o (by decide);obtain⟨q,hq⟩:∃q:Nat,(r7:Int)=q:=⟨_,rfl⟩;have O:q<M.length:=by omega
   have e9:=(Nz a7 O).1;have e4:labA M q<T.length:=by rw[O1 O];exact b0.o _ (Jj O)
   have f8:(q:Int)<(M.length:Int):=by omega
   clear a1 E a7 c0 c1 c2 c3
   go_wp2
   go_ret
   exact⟨_,k7,_,_,rfl,⟨by omega,by omega,b8,by omega⟩,b7.o,b5.o⟩
end Go.Proofs.YtfkagjelljnpdaaGreatDoor
