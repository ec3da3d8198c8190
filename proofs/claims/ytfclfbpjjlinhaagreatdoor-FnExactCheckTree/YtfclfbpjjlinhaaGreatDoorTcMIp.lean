import Derived.Test.YtfclfbpjjlinhaaGreatDoorLrABp
import Derived.Test.YtfclfbpjjlinhaaGreatDoorTimesp
import Derived.Test.YtfclfbpjjlinhaaGreatDoorQQp
import Derived.Deep.AppendLies
import Derived.Test.YtfclfbpjjlinhaaGreatDoorTcAKp
set_option maxRecDepth 100000
set_option maxHeartbeats 4000000
namespace Go.Proofs.YtfclfbpjjlinhaaGreatDoor.L
open Go.ChangeShapes Go.WideShapes Go.ChangeAt Go.RowKit
def IntRow (base:Nat) (W:World) (v:Value) (N:List Int) (m:Nat):Prop:=
 ∃ xs,W.ownsRow base 82 2 v N.length xs∧∀ i (_:i<N.length),∃ s p l c,xs[i*2]? = some (.bool s)∧xs[i*2+1]? = some (.slice p l c)∧IsI base W (.agg #[.bool s,.slice p l c]) N[i] m∧∀ a,p=some a→0<l→v.ownBlock≠some a.block
theorem IntRow.below {base:Nat} {W W':World} {v:Value} {N:List Int} {m:Nat} (h:IntRow base W v N m) (hb:Up W W'):IntRow base W' v N m:=by
 obtain ⟨E,u,h2⟩:=h; refine ⟨E,row_below u hb,fun i hi=>?_⟩; obtain ⟨s,p,l,c,e1,j,y,D⟩:=h2 i hi; exact ⟨s,p,l,c,e1,j,y.below hb,D⟩
theorem IntRow.wide {base:Nat} {W:World} {v:Value} {N:List Int} {m m':Nat} (h:IntRow base W v N m) (hm:m≤m'):IntRow base W v N m':=by
 obtain ⟨E,u,h2⟩:=h; refine ⟨E,u,fun i hi=>?_⟩; obtain ⟨s,p,l,c,e1,j,y,D⟩:=h2 i hi; exact ⟨s,p,l,c,e1,j,y.mono leR hm,D⟩
theorem IntRow.nil (base:Nat) (W:World) (m:Nat):IntRow base W (.slice none 0 0) [] m:=⟨[],World.ownsRow_nil _ _ _ _,fun _ hi=>absurd hi (Nat.not_lt_zero _)⟩
theorem IntRow.set {base:Nat} {W:World} {g n cap:Nat} {N:List Int} {m:Nat} (h:IntRow base W (.slice (some ⟨g,0,none⟩) n cap) N m) {i:Nat} (hi:i<N.length) {s:Bool} {p:Option Addr} {l c:Nat} {y:Int} (hy:IsI base W (.agg #[.bool s,.slice p l c]) y m) (ha:∀ a,p=some a→0<l→g≠a.block) :
 IntRow base ((W.setCell ⟨g,i*2,none⟩ (.bool s)).setCell ⟨g,i*2+1,none⟩ (.slice p l c)) (.slice (some ⟨g,0,none⟩) n cap) (N.set i y) m:=by
 obtain ⟨H,D,h2⟩:=h; have hn:n=N.length:=by rcases D.2 with ⟨e,_⟩|⟨_,_,_,e,_⟩<;>cases e<;>rfl
 subst hn; have T:H.length=N.length*2:=D.1; have E:W.heap.size≤((W.setCell ⟨g,i*2,none⟩ (.bool s)).setCell ⟨g,i*2+1,none⟩ (.slice p l c)).heap.size:=by simp
 have hk:∀ b,b≠g→((W.setCell ⟨g,i*2,none⟩ (.bool s)).setCell ⟨g,i*2+1,none⟩ (.slice p l c)).heap[b]? = W.heap[b]? := fun b hb=>by rw [Below.heap_setCell _ ⟨g,i*2+1,none⟩ _ _ hb,Below.heap_setCell _ ⟨g,i*2,none⟩ _ _ hb]
 refine ⟨(H.set (i*2) (.bool s)).set (i*2+1) (.slice p l c),?_,fun j hj=>?_⟩
 ·have:=((D.stored (i*2) (.bool s)).1.stored (i*2+1) (.slice p l c)).1; rw [List.length_set]; exact this
 rw [List.length_set] at hj
 by_cases e:j=i
 ·subst e; refine ⟨s,p,l,c,?_,?_,?_,fun a e1 e2 e3=>ha a e1 e2 (by cases e3; rfl)⟩
  ·rw [List.getElem?_set_ne (by omega),List.getElem?_set_self (by omega)]
  ·rw [List.getElem?_set_self (by simp; omega)]
  rw [List.getElem_set_self]; exact isI_kept hy E (fun a e1 e2=>hk _ (fun e3=>ha a e1 e2 e3.symm))
 obtain ⟨O,M,K,I,e1,e2,J,u⟩:=h2 j hj; refine ⟨O,M,K,I,?_,?_,?_,u⟩
 ·rw [List.getElem?_set_ne (by omega),List.getElem?_set_ne (by omega)]; exact e1
 ·rw [List.getElem?_set_ne (by omega),List.getElem?_set_ne (by omega)]; exact e2
 rw [List.getElem_set_ne (Ne.symm e)]; exact isI_kept J E (fun a q1 q2=>hk _ (fun e3=>u a q1 q2 (by rw [e3]; rfl)))
theorem IntRow.low {base:Nat} {W:World} {v:Value} {N:List Int} {m:Nat} (h:IntRow base W v N m) (a:Addr) (u:Value) (ha:a.block<base):IntRow base (W.setCell a u) v N m:=by
 obtain ⟨H,y,h2⟩:=h; refine ⟨H,ownsRow_setCell_below y ha u,fun i hi=>?_⟩; obtain ⟨s,p,l,c,e1,j,D,E⟩:=h2 i hi; exact ⟨s,p,l,c,e1,j,D.setC a u ha,E⟩
theorem info_z0:(Tryz.prog.info? 82).map (fun i=>(i.zero,i.size,i.bytes))=some (some (.agg #[.bool false,.slice none 0 0]),2,32):=by kernel_rfl
theorem info_z:∃ i:TypeInfo,Tryz.prog.info? 82=some i∧i.zero=some (.agg #[.bool false,.slice none 0 0])∧i.size=2∧i.bytes=32:=info_parts info_z0
theorem strB_toList (l:List UInt8):(strB l).data.toList=l:=by unfold strB; simp
theorem isNeg_strB (l:List UInt8):isNeg (strB l)=(l.take 1==[45]):=by
 unfold isNeg strB; rw [ByteArray.toList_eq,ByteArray.data_extract,Array.toList_extract]; simp [List.extract]
theorem int_digits (l:List UInt8) (hne:l≠[]) (hl:l.length≤2500) (hd:∀ c∈l,dig c) (h0:l.head? ≠ some 48):isIntB (strB l)=true∧isIntB (strB (45::l))=true:=by
 have h:l.all isDig=true:=List.all_eq_true.2 fun c hc=>by have:=hd c hc; unfold isDig; simpa [dig] using this
 have j:0<l.length:=List.length_pos_iff.2 hne; have E:isNeg (strB l)=false:=by
  rw [isNeg_strB]
  cases l with
  | nil=>exact absurd rfl hne
  | cons c l=>
    have D:=hd c (List.mem_cons_self ..); have:c≠45:=by rintro rfl; simp [dig] at D
    simp [this]
 have H:isNeg (strB (45::l))=true:=by rw [isNeg_strB]; simp
 have u:dgs (strB l)=strB l:=by unfold dgs; rw [E]; rfl
 have y:dgs (strB (45::l))=strB l:=by
  unfold dgs; rw [if_pos H]; apply ByteArray.ext; have e:((strB (45::l)).extract 1 (strB (45::l)).size).data.toList=(strB l).data.toList:=by
   rw [ByteArray.data_extract,Array.toList_extract,strB_toList,strB_toList]; have:(strB (45::l)).size=l.length+1:=by simp [strB,ByteArray.size]
   rw [this]; simp [List.extract]
  exact Array.toList_inj.1 e
 have s:(strB l).size=l.length:=by simp [strB,ByteArray.size]
 have m:decide (l.head? = some 48)=false:=decide_eq_false h0; constructor
 ·unfold isIntB; rw [u,s,strB_toList,h,m,decide_eq_true j,decide_eq_true hl]; rfl
 unfold isIntB; rw [y,s,strB_toList,h,m,decide_eq_true j,decide_eq_true hl]; rfl
theorem text_int {x:Int} {u:ByteArray} (h:IsText x u) (hx:x.natAbs<1000000000 ^ 6):isIntB u=true∧numT u=x:=by
 have j:isIntB u=true:=by
  obtain ⟨neg,t,y,m,K,I⟩:=h; have H:t.length≤6:=by
   refine lenLt t 6 m ?_; rw [← K,sg_abs] at hx; exact hx
  by_cases s:t.length=0
  ·rw [I]; have J:isIntB (strB [48])=true:=by kernel_rfl
   unfold textT; rw [if_pos s]; exact J
  have M:=textD_len t; have hne:textD t≠[]:=fun e=>by
   have D:=num_textD t y; rw [e] at D; have h2:val t=0:=D.symm; have h3:=sg_zero_iff neg t m; rw [h2] at h3; have h4:t=[]:=h3.1 (by cases neg<;>rfl); exact s (by rw [h4]; rfl)
  have E:=int_digits (textD t) hne (by omega) (textD_dig t) (textD_head t); rw [I]; unfold textT; rw [if_neg s]; unfold textS; rw [if_neg (by omega)]
  split
  ·exact E.2
  exact E.1
 exact ⟨j,text_inj (text_back u j) h (text_ne u j)⟩
theorem said_int {n:Nr} {f:Lr} (h:SaidN n f) (hs:SmN n):(∀ s∈f.cs,isIntB (strOf s)=true)∧isIntB (strOf f.bd)=true∧nrOf f=n:=by
 obtain ⟨y,h2,h3,h4⟩:=h; have hb:=text_int h4 hs.2; have j:∀ i,i<n.cs.length→isIntB (strOf (f.cs.getD i []))=true∧numT (strOf (f.cs.getD i []))=n.cs.getD i 0:=fun i hi=>text_int (h3 i hi) (hs.1 _ (at_mem _ _ hi)); refine ⟨fun s hs'=>?_,hb.1,?_⟩
 ·obtain ⟨i,hi,rfl⟩:=List.getElem_of_mem hs'; have:=(j i (by omega)).1; rw [List.getD_eq_getElem?_getD,List.getElem?_eq_getElem hi] at this; exact this
 obtain ⟨c,s,b⟩:=n; have e1:(nrOf f).cs=c:=getD_ext 0 (by rw [nr_len]; exact h2) (fun i hi=>by
  rw [nr_len] at hi; rw [nr_at f hi]; exact (j i (by show i<c.length; have:f.cs.length=c.length:=h2; omega)).2)
 have m:(nrOf f).st=s:=y; have u:(nrOf f).bd=b:=hb.2; rw [← e1,← m,← u]
structure RowT (n:Nat) (f:Lr):Prop where
 len:f.cs.length=n
 ints:∀ s∈f.cs,isIntB (strOf s)=true
 bd:isIntB (strOf f.bd)=true
 small:SmN (nrOf f)
def lowN (n col:Nat) (a:Int):Nr:=⟨(List.replicate n 0).set col 1,false,a⟩
def highN (n col:Nat) (a:Int):Nr:=⟨(List.replicate n 0).set col (-1),false,-(a+1)⟩
theorem nr_one (n col:Nat) (co bd:List UInt8) (k a:Int) (hk:numT (strOf co)=k) (ha:numT (strOf bd)=a):nrOf (oneRow n col co bd)=⟨(List.replicate n 0).set col k,false,a⟩:=by
 unfold nrOf oneRow; simp only [List.map_set,List.map_replicate,hk,ha]; have:numT (strOf [48])=0:=by kernel_rfl
 rw [this]
theorem nr_low (n col:Nat) (bd:List UInt8):nrOf (oneRow n col [49] bd)=lowN n col (numT (strOf bd)):=nr_one n col [49] bd 1 _ (by kernel_rfl) rfl
theorem nr_high (n col:Nat) (bd:List UInt8) (a:Int) (h:numT (strOf bd) = -(a+1)):nrOf (oneRow n col [45,49] bd)=highN n col a:=nr_one n col [45,49] bd (-1) _ (by kernel_rfl) h
theorem mem_set_rep {α:Type} {n col:Nat} {a b x:α} (h:x∈(List.replicate n a).set col b):x=a∨x=b:=by
 rcases List.mem_or_eq_of_mem_set h with h|h
 ·exact .inl (List.eq_of_mem_replicate h)
 exact .inr h
theorem small_one {n col:Nat} {k a:Int} (hk:k.natAbs≤1) (ha:a.natAbs<1000000000 ^ 6):SmN ⟨(List.replicate n 0).set col k,false,a⟩:=by
 refine ⟨fun x hx=>?_,ha⟩; have h:(1000000000:Nat) ^ 6=1000000000000000000000000000000000000000000000000000000:=by decide
 rcases mem_set_rep hx with rfl|rfl
 ·rw [h]; decide
 rw [h]; omega
theorem rowT_low {n col:Nat} {bd:List UInt8} (h:isIntB (strOf bd)=true) (hs:(numT (strOf bd)).natAbs<1000000000 ^ 6):RowT n (oneRow n col [49] bd):=by
 refine ⟨oneRow_len _ _ _ _,fun s hs=>?_,h,?_⟩
 ·rcases mem_set_rep hs with rfl|rfl<;>kernel_rfl
 rw [nr_low]; exact small_one (by decide) hs
theorem rowT_high {n col:Nat} {bd:List UInt8} {a:Int} (h:isIntB (strOf bd)=true) (he:numT (strOf bd) = -(a+1)) (hs:(a+1).natAbs<1000000000 ^ 6):RowT n (oneRow n col [45,49] bd):=by
 refine ⟨oneRow_len _ _ _ _,fun s hs=>?_,h,?_⟩
 ·rcases mem_set_rep hs with rfl|rfl<;>kernel_rfl
 rw [nr_high n col bd a he]; exact small_one (by decide) (by omega)
/-! ## What is added up -/
def nr0:Nr:=⟨[],false,0⟩
def addC (G:List Nr) (M:List Int) (col:Nat):Nat→Int
 | 0=>0
 | k+1=>addC G M col k+M.getD k 0*(G.getD k nr0).cs.getD col 0
def addD (G:List Nr) (M:List Int):Nat→Int
 | 0=>0
 | k+1=>addD G M k+M.getD k 0*(G.getD k nr0).bd
def addS (G:List Nr) (M:List Int):Nat→Bool
 | 0=>false
 | k+1=>addS G M k||((G.getD k nr0).st&&!decide (M.getD k 0=0))
def multOk (s:List UInt8):Bool:=isIntB (strOf s)&&decide (0≤numT (strOf s))
def numsM (mu:List (List UInt8)):List Int:=mu.map (fun s=>numT (strOf s))
def endB (n:Nat) (G:List Nr) (M:List Int):Bool:=(decide (addD G M G.length<0)||(decide (addD G M G.length=0)&&addS G M G.length))&&(List.range n).all (fun c=>decide (addC G M c G.length=0))
def addsB (n:Nat) (G:List Nr) (mu:List (List UInt8)):Bool:=decide (mu.length=G.length)&&(mu.all multOk&&endB n G (numsM mu))
def takeT (n:Nat) (Wh:List Bool):Nat→List Nr→List Tn→Option (List Tn)
 | 0,_,_=>none
 | _+1,_,[]=>none
 | k+1,G,f::T=>if 50<G.length then none else if f.col = -1 then (if (decide (f.pl=[])&&addsB n G f.mu)=true then some T else none) else if (decide (0≤f.col)&&decide (f.col<(n:Int))&&Wh.getD f.col.toNat false&&placeOk f.pl&&decide (f.mu.length=0))=true then (match takeT n Wh k (G++[lowN n f.col.toNat (numT (strOf f.pl))]) T with
  | none=>none
  | some T'=>takeT n Wh k (G++[highN n f.col.toNat (numT (strOf f.pl))]) T') else none
theorem takeT_len (n:Nat) (Wh:List Bool):∀ (k:Nat) (G:List Nr) (T T':List Tn),takeT n Wh k G T=some T'→T'.length<T.length
 | 0,_,_,_=>fun h=>by cases h
 | _+1,_,[],_=>fun h=>by cases h
 | k+1,G,f::T,T'=>fun h=>by
   unfold takeT at h
   split at h
   ·cases h
   ·split at h
    ·split at h
     ·cases h; simp
     ·cases h
    ·split at h
     ·split at h
      ·cases h
      ·rename_i T1 h1
       have a:=takeT_len n Wh k _ _ _ h1
       have b:=takeT_len n Wh k _ _ _ h
       simp only [List.length_cons]
       omega
     ·cases h
theorem takeD {P:Program} {ops:Array Oper} {Q:Exit→Act→World→Prop} {md:Region.Mode} {S:World→Prop} {i d:Nat} {oi:Oper} {v:Value} {fuel:Nat} {listed:Array Bool} {a:Act} {w:World} (hi:ops[i]? = some oi) (hd:oi.dst=some d)
 (hs:Region.noSelect ops=true) (hf:Region.free md ops listed i=true) (hr:(Region.ready md ops listed).contains i=true)
 (hQ:∀ c a w,Q (.panic c) (a.put (some d) v) w→Q (.panic c) a w) (hy:YieldsIf P ops S oi v a) (hS:S w)
 (h:wpAnyH P md ops Q S fuel (listed.setIfInBounds i true) (a.put (some d) v) w):wpAnyH P md ops Q S (fuel+1) listed a w:=by
 rw [← hd] at hQ h; exact wpAnyH_take hi hs hf hr hQ hy hS h
theorem tk {P:Program} {ops:Array Oper} {Q:Exit→Act→World→Prop} {md:Region.Mode} {S:World→Prop} (i d:Nat) {oi:Oper} {v:Value} {fuel:Nat} {listed:Array Bool} {a:Act} {w:World} (hi:ops[i]? = some oi) (hd:oi.dst=some d)
 (hc:(Region.noSelect ops&&(Region.free md ops listed i&&(Region.ready md ops listed).contains i))=true) (hQ:∀ c a w,Q (.panic c) (a.put (some d) v) w→Q (.panic c) a w) (hy:YieldsIf P ops S oi v a) (hS:S w)
 (h:wpAnyH P md ops Q S fuel (listed.setIfInBounds i true) (a.put (some d) v) w):wpAnyH P md ops Q S (fuel+1) listed a w:=by
 rw [Bool.and_eq_true,Bool.and_eq_true] at hc; exact takeD hi hd hc.1 hc.2.1 hc.2.2 hQ hy hS h
theorem wrh {P:Program} {ops:Array Oper} {Q:Exit→Act→World→Prop} {S:World→Prop} (n:Nat) (hn:ops.size=n) {id:Nat} {a:Act} {w:World} (hm:P.follows .mixedOrders=true) (hS:S w.drew) (h:S w.drew→wpAnyH P .any ops Q S n (Array.replicate ops.size false) a w.drew):(Code.region id ops true).wp P Q a w:=by
 subst hn; exact wp_region_held_drew hm hS h
theorem tkf {P:Program} {ops:Array Oper} {Q:Exit→Act→World→Prop} {md:Region.Mode} {S:World→Prop} (k m:Nat) {fuel:Nat} {oi:Oper} {v:Value} {listed:Array Bool} {a:Act} {w:World} (hi:ops[k - fuel]? = some oi) (hd:oi.dst=some (m - fuel))
 (hc:(Region.noSelect ops&&(Region.free md ops listed (k - fuel)&&(Region.ready md ops listed).contains (k - fuel)))=true) (hQ:∀ c a w,Q (.panic c) (a.put (some (m - fuel)) v) w→Q (.panic c) a w) (hy:YieldsIf P ops S oi v a) (hS:S w)
 (h:wpAnyH P md ops Q S fuel (listed.setIfInBounds (k - fuel) true) (a.put (some (m - fuel)) v) w):wpAnyH P md ops Q S (fuel+1) listed a w:=tk (k - fuel) (m - fuel) hi hd hc hQ hy hS h
def branchB (n:Nat) (Wh:List Bool) (f:Tn):Bool:=decide (0≤f.col)&&decide (f.col<(n:Int))&&Wh.getD f.col.toNat false&&placeOk f.pl&&decide (f.mu.length=0)
theorem isBranch_any (cb n:Nat) (wv rv:Value) (Wh:List Bool) (f:Tn) (pm:Option Addr) (cm:Nat) (w:World) (hx:Bx w cb [.int .i64 (n:Nat),wv,rv]) (hw:BoolsAt w wv Wh) (hlen:Wh.length=n) (_hn:n≤20) (hs:f.pl.length≤1048576) :
 Calls Tryz.prog 55 #[.pointer (some ⟨cb,0,none⟩),.agg #[.int .i64 f.col,.string (strOf f.pl),.slice pm f.mu.length cm]] w fun e w'=>e=.returned (.bool (branchB n Wh f))∧Up w w':=by
 have HX:=Hd hx; have E:=Hd (fun W=>isPlace_any f.pl W hs); obtain ⟨pw,O,rfl,w1,w2,w3⟩:=hw; unfold maxLen at w2; have b9:=Hd hlen; have c7:=Hd w3; obtain ⟨M,I⟩:=exW (w.alloc (.cells #[.int .i64 f.col,.string (strOf f.pl),.slice pm f.mu.length cm] 61)); have m:Hid (Up w M):=by unfold Hid; rw [← I]; exact below_alloc _ _
 have Z:Hid (Bx M w.heap.size [.int .i64 f.col,.string (strOf f.pl),.slice pm f.mu.length cm]):=by unfold Hid; rw [← I]; exact bx_new w _ _
 have D:=Hd I; have a6:=Hd (HX.o.below HX.o.lt m.o); clear I hx hlen w3; have y:Hid (∀ W,Up M W→W.cell? ⟨w.heap.size,0,none⟩=some (.int .i64 f.col)∧W.cell? ⟨w.heap.size,1,none⟩=some (.string (strOf f.pl))∧W.cell? ⟨w.heap.size,2,none⟩=some (.slice pm f.mu.length cm)∧W.cell? ⟨cb,0,none⟩=some (.int .i64 (n:Nat))∧W.cell? ⟨cb,1,none⟩=some (.slice pw Wh.length O)):=fun W hW=>by
  have h1:=(Z.o.below Z.o.lt hW).c3; have h2:=(a6.o.below a6.o.lt hW).c3; exact ⟨h1.1,h1.2.1,h1.2.2,h2.1,h2.2.1⟩
 by_cases h0:0≤f.col
 ·obtain ⟨k,hk⟩:∃ k:Nat,f.col=(k:Int):=⟨f.col.toNat,by omega⟩; have HK:=Hd hk; have a9:f.col.toNat=k:=by omega
  have b8:=Hd a9; rw [hk] at D y ⊢; have y0:decide ((0:Int)≤(k:Int))=true:=decide_eq_true (by omega); clear hk a9 h0
  by_cases h1:k<n
  ·have y1:decide ((k:Int)<(n:Int))=true:=decide_eq_true (by omega); have J:k<Wh.length:=by have:=b9.o; omega
   obtain ⟨bw,rfl,a7,a8⟩:∃ bw,pw=some ⟨bw,0,none⟩∧bw<w.heap.size∧∀ i (h:i<Wh.length),w.cell? ⟨bw,i,none⟩=some (.bool Wh[i]):=by
    rcases c7.o with h|h
    ·rw [h] at J; exact absurd J (Nat.not_lt_zero _)
    exact h
   have U:Hid (Wh.getD f.col.toNat false=Wh[k]):=by unfold Hid; rw [b8.o,List.getD_eq_getElem?_getD,List.getElem?_eq_getElem J]; rfl
   have V:Hid (∀ W,Up M W→W.cell? ⟨bw,k,none⟩=some (.bool Wh[k])):=fun W hW=>(hW.cell (p:=⟨bw,k,none⟩) (Nat.lt_of_lt_of_le a7 m.o.size)).trans ((m.o.cell (p:=⟨bw,k,none⟩) a7).trans (a8 k J)); have d5:(k:Int)<(Wh.length:Int):=by omega
   have Y:=Hd y.o; clear y; have y:Hid (∀ W,Up M W→W.cell? ⟨w.heap.size,0,none⟩=some (.int .i64 (k:Nat))∧W.cell? ⟨w.heap.size,1,none⟩=some (.string (strOf f.pl))∧W.cell? ⟨w.heap.size,2,none⟩=some (.slice pm f.mu.length cm)∧W.cell? ⟨cb,0,none⟩=some (.int .i64 (n:Nat))∧W.cell? ⟨cb,1,none⟩=some (.slice (some ⟨bw,0,none⟩) Wh.length O)∧W.cell? ⟨bw,k,none⟩=some (.bool Wh[k])):=fun W hW=>by
    obtain ⟨a1,a2,a3,a4,a5⟩:=Y.o W hW; exact ⟨a1,a2,a3,a4,a5,V.o W hW⟩
   clear a8 V Y
   cases hb:Wh[k] with
   | false=>
     have G:Hid (branchB n Wh f=false):=by unfold Hid branchB; rw [U.o,hb,Bool.and_false]; rfl
     rw [hb] at y
     go_enter Tryz.func55,Tryz.ntmps55
     go_wp2_with (rw [D.o])
     refine wrh 34 rfl (S:=fun W=>W.cell? ⟨w.heap.size,0,none⟩=some (.int .i64 (k:Nat))∧W.cell? ⟨w.heap.size,1,none⟩=some (.string (strOf f.pl))∧W.cell? ⟨w.heap.size,2,none⟩=some (.slice pm f.mu.length cm)∧W.cell? ⟨cb,0,none⟩=some (.int .i64 (n:Nat))∧W.cell? ⟨cb,1,none⟩=some (.slice (some ⟨bw,0,none⟩) Wh.length O)∧W.cell? ⟨bw,k,none⟩=some (.bool false)) (by kernel_rfl) (y.o _ (Below.refl _ _).drew) (fun hHeld=>?_)
     iterate 33 ((first|(refine tkf 33 38 (v:=?_) rfl rfl (by kernel_rfl) (fun _ _ _ h=>h) (Or.inl ⟨by rfl,?_⟩) (by assumption) ?_; rotate_left; (intro w j; (try dsimp only at j); go_simp; (try with_reducible rfl)))|refine tkf 33 38 (v:=undef) rfl rfl (by kernel_rfl) (fun _ _ _ h=>h) (Or.inr ⟨by rfl,rfl⟩) (by assumption) ?_); simp only [Nat.reduceSub,Act.put,List.setIfInBounds_toArray,List.set_cons_zero,List.set_cons_succ])
     refine tk 33 4 (v:=?_) rfl rfl (by kernel_rfl) (fun _ _ _ h=>h) (Or.inl ⟨by rfl,?_⟩) (by assumption) ?_
     rotate_left
     ·(intro w j; (try dsimp only at j); go_simp; (try with_reducible rfl))
     try simp only [Act.put,List.setIfInBounds_toArray,List.set_cons_zero,List.set_cons_succ]
     refine wpAnyH_done (by kernel_rfl) ?_ _
     go_wp2_with fail
     go_ret
     exact ⟨ret_bool G.o.symm,m.o.trans ((Below.refl _ _).drew.mono m.o.size)⟩
   | true=>
     rw [hb] at y U
     cases hp:placeOk f.pl with
     | false=>
       have G:Hid (branchB n Wh f=false):=by unfold Hid branchB; rw [hp,Bool.and_false]; rfl
       rw [hp] at E
       go_enter Tryz.func55,Tryz.ntmps55
       go_wp2_with (rw [D.o])
       refine wrh 34 rfl (S:=fun W=>W.cell? ⟨w.heap.size,0,none⟩=some (.int .i64 (k:Nat))∧W.cell? ⟨w.heap.size,1,none⟩=some (.string (strOf f.pl))∧W.cell? ⟨w.heap.size,2,none⟩=some (.slice pm f.mu.length cm)∧W.cell? ⟨cb,0,none⟩=some (.int .i64 (n:Nat))∧W.cell? ⟨cb,1,none⟩=some (.slice (some ⟨bw,0,none⟩) Wh.length O)∧W.cell? ⟨bw,k,none⟩=some (.bool true)) (by kernel_rfl) (y.o _ (Below.refl _ _).drew) (fun hHeld=>?_)
       iterate 25 ((first|(refine tkf 33 38 (v:=?_) rfl rfl (by kernel_rfl) (fun _ _ _ h=>h) (Or.inl ⟨by rfl,?_⟩) (by assumption) ?_; rotate_left; (intro w j; (try dsimp only at j); go_simp; (try with_reducible rfl)))|refine tkf 33 38 (v:=undef) rfl rfl (by kernel_rfl) (fun _ _ _ h=>h) (Or.inr ⟨by rfl,rfl⟩) (by assumption) ?_); simp only [Nat.reduceSub,Act.put,List.setIfInBounds_toArray,List.set_cons_zero,List.set_cons_succ])
       refine wpAnyH_ready (rs:=[25]) (by kernel_rfl) (by simp) ?_; refine AllReadyH.cons rfl (fun K hK=>?_) AllReadyH.nil
       go_simp
       go_at_call 93
       refine (E.o _).mono ?_; rintro e T ⟨rfl,u⟩; have s:Hid (Up M T):=(Below.refl _ _).drew.trans u; have H:=y.o T s.o; clear u
       go_wp2_with fail
       refine hK.out _ _ H (fun hHeld2=>?_); clear hK K
       try simp only [Act.put,List.setIfInBounds_toArray,List.set_cons_zero,List.set_cons_succ]
       iterate 7 ((first|(refine tkf 33 38 (v:=?_) rfl rfl (by kernel_rfl) (fun _ _ _ h=>h) (Or.inl ⟨by rfl,?_⟩) (by assumption) ?_; rotate_left; (intro w j; (try dsimp only at j); go_simp; (try with_reducible rfl)))|refine tkf 33 38 (v:=undef) rfl rfl (by kernel_rfl) (fun _ _ _ h=>h) (Or.inr ⟨by rfl,rfl⟩) (by assumption) ?_); simp only [Nat.reduceSub,Act.put,List.setIfInBounds_toArray,List.set_cons_zero,List.set_cons_succ])
       refine tk 33 4 (v:=?_) rfl rfl (by kernel_rfl) (fun _ _ _ h=>h) (Or.inl ⟨by rfl,?_⟩) (by assumption) ?_
       rotate_left
       ·(intro w j; (try dsimp only at j); go_simp; (try with_reducible rfl))
       try simp only [Act.put,List.setIfInBounds_toArray,List.set_cons_zero,List.set_cons_succ]
       refine wpAnyH_done (by kernel_rfl) ?_ _
       go_wp2_with fail
       go_ret
       exact ⟨ret_bool G.o.symm,m.o.trans (s.o.mono m.o.size)⟩
     | true=>
       rw [hp] at E; have G:Hid (branchB n Wh f=decide (f.mu.length=0)):=by
        have e1:decide (0≤f.col)=true:=decide_eq_true (by rw [HK.o]; omega); have e2:decide (f.col<(n:Int))=true:=decide_eq_true (by rw [HK.o]; omega); unfold Hid branchB; rw [hp,U.o,e1,e2]; rfl
       by_cases hz:f.mu.length=0
       ·have yz:((f.mu.length:Int)==0)=true:=by rw [hz]; rfl
        rw [decide_eq_true hz] at G; clear hz
        go_enter Tryz.func55,Tryz.ntmps55
        go_wp2_with (rw [D.o])
        refine wrh 34 rfl (S:=fun W=>W.cell? ⟨w.heap.size,0,none⟩=some (.int .i64 (k:Nat))∧W.cell? ⟨w.heap.size,1,none⟩=some (.string (strOf f.pl))∧W.cell? ⟨w.heap.size,2,none⟩=some (.slice pm f.mu.length cm)∧W.cell? ⟨cb,0,none⟩=some (.int .i64 (n:Nat))∧W.cell? ⟨cb,1,none⟩=some (.slice (some ⟨bw,0,none⟩) Wh.length O)∧W.cell? ⟨bw,k,none⟩=some (.bool true)) (by kernel_rfl) (y.o _ (Below.refl _ _).drew) (fun hHeld=>?_)
        iterate 25 ((first|(refine tkf 33 38 (v:=?_) rfl rfl (by kernel_rfl) (fun _ _ _ h=>h) (Or.inl ⟨by rfl,?_⟩) (by assumption) ?_; rotate_left; (intro w j; (try dsimp only at j); go_simp; (try with_reducible rfl)))|refine tkf 33 38 (v:=undef) rfl rfl (by kernel_rfl) (fun _ _ _ h=>h) (Or.inr ⟨by rfl,rfl⟩) (by assumption) ?_); simp only [Nat.reduceSub,Act.put,List.setIfInBounds_toArray,List.set_cons_zero,List.set_cons_succ])
        refine wpAnyH_ready (rs:=[25]) (by kernel_rfl) (by simp) ?_; refine AllReadyH.cons rfl (fun K hK=>?_) AllReadyH.nil
        go_simp
        go_at_call 93
        refine (E.o _).mono ?_; rintro e T ⟨rfl,u⟩; have s:Hid (Up M T):=(Below.refl _ _).drew.trans u; have H:=y.o T s.o; clear u
        go_wp2_with fail
        refine hK.out _ _ H (fun hHeld2=>?_); clear hK K
        try simp only [Act.put,List.setIfInBounds_toArray,List.set_cons_zero,List.set_cons_succ]
        iterate 7 ((first|(refine tkf 33 38 (v:=?_) rfl rfl (by kernel_rfl) (fun _ _ _ h=>h) (Or.inl ⟨by rfl,?_⟩) (by assumption) ?_; rotate_left; (intro w j; (try dsimp only at j); go_simp; (try with_reducible rfl)))|refine tkf 33 38 (v:=undef) rfl rfl (by kernel_rfl) (fun _ _ _ h=>h) (Or.inr ⟨by rfl,rfl⟩) (by assumption) ?_); simp only [Nat.reduceSub,Act.put,List.setIfInBounds_toArray,List.set_cons_zero,List.set_cons_succ])
        refine tk 33 4 (v:=?_) rfl rfl (by kernel_rfl) (fun _ _ _ h=>h) (Or.inl ⟨by rfl,?_⟩) (by assumption) ?_
        rotate_left
        ·(intro w j; (try dsimp only at j); go_simp; (try with_reducible rfl))
        try simp only [Act.put,List.setIfInBounds_toArray,List.set_cons_zero,List.set_cons_succ]
        refine wpAnyH_done (by kernel_rfl) ?_ _
        go_wp2_with fail
        go_ret
        exact ⟨ret_bool G.o.symm,m.o.trans (s.o.mono m.o.size)⟩
       ·have yz:((f.mu.length:Int)==0)=false:=by rw [beq_eq_false_iff_ne]; omega
        rw [decide_eq_false hz] at G; clear hz
        go_enter Tryz.func55,Tryz.ntmps55
        go_wp2_with (rw [D.o])
        refine wrh 34 rfl (S:=fun W=>W.cell? ⟨w.heap.size,0,none⟩=some (.int .i64 (k:Nat))∧W.cell? ⟨w.heap.size,1,none⟩=some (.string (strOf f.pl))∧W.cell? ⟨w.heap.size,2,none⟩=some (.slice pm f.mu.length cm)∧W.cell? ⟨cb,0,none⟩=some (.int .i64 (n:Nat))∧W.cell? ⟨cb,1,none⟩=some (.slice (some ⟨bw,0,none⟩) Wh.length O)∧W.cell? ⟨bw,k,none⟩=some (.bool true)) (by kernel_rfl) (y.o _ (Below.refl _ _).drew) (fun hHeld=>?_)
        iterate 25 ((first|(refine tkf 33 38 (v:=?_) rfl rfl (by kernel_rfl) (fun _ _ _ h=>h) (Or.inl ⟨by rfl,?_⟩) (by assumption) ?_; rotate_left; (intro w j; (try dsimp only at j); go_simp; (try with_reducible rfl)))|refine tkf 33 38 (v:=undef) rfl rfl (by kernel_rfl) (fun _ _ _ h=>h) (Or.inr ⟨by rfl,rfl⟩) (by assumption) ?_); simp only [Nat.reduceSub,Act.put,List.setIfInBounds_toArray,List.set_cons_zero,List.set_cons_succ])
        refine wpAnyH_ready (rs:=[25]) (by kernel_rfl) (by simp) ?_; refine AllReadyH.cons rfl (fun K hK=>?_) AllReadyH.nil
        go_simp
        go_at_call 93
        refine (E.o _).mono ?_; rintro e T ⟨rfl,u⟩; have s:Hid (Up M T):=(Below.refl _ _).drew.trans u; have H:=y.o T s.o; clear u
        go_wp2_with fail
        refine hK.out _ _ H (fun hHeld2=>?_); clear hK K
        try simp only [Act.put,List.setIfInBounds_toArray,List.set_cons_zero,List.set_cons_succ]
        iterate 7 ((first|(refine tkf 33 38 (v:=?_) rfl rfl (by kernel_rfl) (fun _ _ _ h=>h) (Or.inl ⟨by rfl,?_⟩) (by assumption) ?_; rotate_left; (intro w j; (try dsimp only at j); go_simp; (try with_reducible rfl)))|refine tkf 33 38 (v:=undef) rfl rfl (by kernel_rfl) (fun _ _ _ h=>h) (Or.inr ⟨by rfl,rfl⟩) (by assumption) ?_); simp only [Nat.reduceSub,Act.put,List.setIfInBounds_toArray,List.set_cons_zero,List.set_cons_succ])
        refine tk 33 4 (v:=?_) rfl rfl (by kernel_rfl) (fun _ _ _ h=>h) (Or.inl ⟨by rfl,?_⟩) (by assumption) ?_
        rotate_left
        ·(intro w j; (try dsimp only at j); go_simp; (try with_reducible rfl))
        try simp only [Act.put,List.setIfInBounds_toArray,List.set_cons_zero,List.set_cons_succ]
        refine wpAnyH_done (by kernel_rfl) ?_ _
        go_wp2_with fail
        go_ret
        exact ⟨ret_bool G.o.symm,m.o.trans (s.o.mono m.o.size)⟩
  have y1:decide ((k:Int)<(n:Int))=false:=decide_eq_false (by omega); have G:Hid (branchB n Wh f=false):=by unfold Hid branchB; rw [decide_eq_false (show ¬ f.col<(n:Int) by rw [HK.o]; omega),Bool.and_false]; rfl
  go_enter Tryz.func55,Tryz.ntmps55
  go_wp2_with (rw [D.o])
  refine wrh 34 rfl (S:=fun W=>W.cell? ⟨w.heap.size,0,none⟩=some (.int .i64 (k:Nat))∧W.cell? ⟨w.heap.size,1,none⟩=some (.string (strOf f.pl))∧W.cell? ⟨w.heap.size,2,none⟩=some (.slice pm f.mu.length cm)∧W.cell? ⟨cb,0,none⟩=some (.int .i64 (n:Nat))∧W.cell? ⟨cb,1,none⟩=some (.slice pw Wh.length O)) (by kernel_rfl) (y.o _ (Below.refl _ _).drew) (fun hHeld=>?_)
  iterate 33 ((first|(refine tkf 33 38 (v:=?_) rfl rfl (by kernel_rfl) (fun _ _ _ h=>h) (Or.inl ⟨by rfl,?_⟩) (by assumption) ?_; rotate_left; (intro w j; (try dsimp only at j); go_simp; (try with_reducible rfl)))|refine tkf 33 38 (v:=undef) rfl rfl (by kernel_rfl) (fun _ _ _ h=>h) (Or.inr ⟨by rfl,rfl⟩) (by assumption) ?_); simp only [Nat.reduceSub,Act.put,List.setIfInBounds_toArray,List.set_cons_zero,List.set_cons_succ])
  refine tk 33 4 (v:=?_) rfl rfl (by kernel_rfl) (fun _ _ _ h=>h) (Or.inl ⟨by rfl,?_⟩) (by assumption) ?_
  rotate_left
  ·(intro w j; (try dsimp only at j); go_simp; (try with_reducible rfl))
  try simp only [Act.put,List.setIfInBounds_toArray,List.set_cons_zero,List.set_cons_succ]
  refine wpAnyH_done (by kernel_rfl) ?_ _
  go_wp2_with fail
  go_ret
  exact ⟨ret_bool G.o.symm,m.o.trans ((Below.refl _ _).drew.mono m.o.size)⟩
 have G:Hid (branchB n Wh f=false):=by unfold Hid branchB; rw [decide_eq_false h0]; rfl
 have y0:decide (0≤f.col)=false:=decide_eq_false h0
 go_enter Tryz.func55,Tryz.ntmps55
 go_wp2_with (rw [D.o])
 refine wrh 34 rfl (S:=fun W=>W.cell? ⟨w.heap.size,0,none⟩=some (.int .i64 f.col)∧W.cell? ⟨w.heap.size,1,none⟩=some (.string (strOf f.pl))∧W.cell? ⟨w.heap.size,2,none⟩=some (.slice pm f.mu.length cm)∧W.cell? ⟨cb,0,none⟩=some (.int .i64 (n:Nat))∧W.cell? ⟨cb,1,none⟩=some (.slice pw Wh.length O)) (by kernel_rfl) (y.o _ (Below.refl _ _).drew) (fun hHeld=>?_)
 iterate 33 ((first|(refine tkf 33 38 (v:=?_) rfl rfl (by kernel_rfl) (fun _ _ _ h=>h) (Or.inl ⟨by rfl,?_⟩) (by assumption) ?_; rotate_left; (intro w j; (try dsimp only at j); go_simp; (try with_reducible rfl)))|refine tkf 33 38 (v:=undef) rfl rfl (by kernel_rfl) (fun _ _ _ h=>h) (Or.inr ⟨by rfl,rfl⟩) (by assumption) ?_); simp only [Nat.reduceSub,Act.put,List.setIfInBounds_toArray,List.set_cons_zero,List.set_cons_succ])
 refine tk 33 4 (v:=?_) rfl rfl (by kernel_rfl) (fun _ _ _ h=>h) (Or.inl ⟨by rfl,?_⟩) (by assumption) ?_
 rotate_left
 ·(intro w j; (try dsimp only at j); go_simp; (try with_reducible rfl))
 try simp only [Act.put,List.setIfInBounds_toArray,List.set_cons_zero,List.set_cons_succ]
 refine wpAnyH_done (by kernel_rfl) ?_ _
 go_wp2_with fail
 go_ret
 exact ⟨ret_bool G.o.symm,m.o.trans ((Below.refl _ _).drew.mono m.o.size)⟩
theorem bx_far3 {W:World} {g k:Nat} {l:List Value} (h:Bx W g l) (hk:g≠k) (i0 i1 i2:Nat) (u0 u1 u2:Value):Bx (((W.setCell ⟨k,i0,none⟩ u0).setCell ⟨k,i1,none⟩ u1).setCell ⟨k,i2,none⟩ u2) g l:=by
 obtain ⟨j,h⟩:=h; exact ⟨j,by rw [Below.heap_setCell _ ⟨k,i2,none⟩ _ _ hk,Below.heap_setCell _ ⟨k,i1,none⟩ _ _ hk,Below.heap_setCell _ ⟨k,i0,none⟩ _ _ hk]; exact h⟩
theorem longI_any (B:Nat) (z:Value) (x:Int) (n:Nat) (w:World) (h:IsI B w z x n) (hn:n≤200) (hLT:LT w) :
 Calls Tryz.prog 95 #[z] w fun e w'=>∃ u,e=.returned (.string u)∧IsText x u∧Up w w':=by
 obtain ⟨neg,v,t,rfl,s,D,E,hl⟩:=h; have j:okL t:=by obtain ⟨_,_,_,_,_,h,_⟩:=s; exact h
 have H:=textD_len t
 by_cases m:t.length=0
 ·have y:=s; obtain ⟨p,c,rfl,-⟩:=y; rw [m]; refine (longText_zero _ p c w).mono ?_; rintro e w' ⟨rfl,hb⟩; refine ⟨_,rfl,⟨neg,t,j,D,E,?_⟩,hb⟩; unfold textT; rw [if_pos m]; rfl
 refine (longText_pos B _ v t w s (by omega) (by omega) hLT).mono ?_; rintro e w' ⟨rfl,hb⟩; refine ⟨_,rfl,⟨neg,t,j,D,E,?_⟩,hb⟩; unfold textT textS textL; rw [if_neg m]; have h2:¬ 2500<(textD t).length:=by omega
 simp only [if_neg h2]
theorem tight6 {B:Nat} {w:World} {z:Value} {x:Int} {n:Nat} (h:IsI B w z x n) (hx:x.natAbs<1000000000 ^ 6):IsI B w z x 6:=by
 obtain ⟨neg,v,t,rfl,s,m,j,hl⟩:=h; refine ⟨neg,v,t,rfl,s,m,j,lenLt t 6 m ?_⟩; rw [← j,sg_abs] at hx; exact hx
theorem childRows_any (n:Nat) (f:Tn) (col:Nat) (pv:Option Addr) (lv cv:Nat) (w:World) (hn:n≤20) (hc:col<n) (hcol:f.col=(col:Nat)) (hat:textOk f.pl=true) (hs:f.pl.length≤1048576) (hT:Tabs w) :
 Calls Tryz.prog 56 #[.int .i64 (n:Nat),.agg #[.int .i64 f.col,.string (strOf f.pl),.slice pv lv cv]] w fun e w'=>∃ g1 g2 u,e=.returned (.tuple #[.agg #[.slice (some ⟨g1,0,none⟩) n n,.bool false,.string (strOf f.pl)],.agg #[.slice (some ⟨g2,0,none⟩) n n,.bool false,.string (strOf u)]])∧IsText (-(numT (strOf f.pl)+1)) (strOf u)∧w'.ownsRow w.heap.size 9 1 (.slice (some ⟨g1,0,none⟩) n n) n (strsC (oneRow n col [49] f.pl).cs)∧w'.ownsRow w.heap.size 9 1 (.slice (some ⟨g2,0,none⟩) n n) n (strsC (oneRow n col [45,49] u).cs)∧Up w w':=by
 rw [hcol]; have HT:=Hd hT; have d3:=Hd hat; obtain ⟨W3,f5,g5,x1,x2,x3,i0⟩:=box3 w [.int .i64 (col:Nat),.string (strOf f.pl),.slice pv lv cv] [.slice none 0 0,.bool false,.string ⟨#[]⟩] [.slice none 0 0,.bool false,.string ⟨#[]⟩] 61 50 50; have k9:=Hd f5; have a6:=Hd g5; have e3:=Hd x1; have e4:=Hd x2; have e5:=Hd x3; have d7:=Hd i0; obtain ⟨b0,b1,b2⟩:=x1.c3; clear f5 g5 x1 x2 x3 i0 hT hat hcol
 go_enter Tryz.func56,Tryz.ntmps56
 go_wp2_with (rw [k9.o])
 refine (cutI_any f.pl W3 hs d3.o).mono ?_; rintro e w4 ⟨s4,p4,l4,c4,rfl,i2,g6⟩; have l1:=Hd i2; have b5:=Hd g6; clear i2 g6 b0 b1 b2
 go_wp2_with fail
 refine (wholeNumber_any 1 w4 (by decide)).mono ?_; rintro e w5 ⟨z5,rfl,c7,b9⟩; obtain ⟨s5,p5,l5,c5,rfl⟩:=c7.shape; have e7:=Hd (l1.o.below b9); have l2:=Hd c7; have E:Hid (Up W3 w5):=b5.o.trans (b9.mono b5.o.size); have i4:Hid (Up w w5):=a6.o.trans (E.o.mono a6.o.size); clear c7 b9
 go_wp2_with fail
 refine (plus_any 0 _ _ _ _ 280 3 w5 (e7.o.mono (Nat.zero_le _) leR) (l2.o.mono (Nat.zero_le _) leR) (by omega) (by omega) (HT.o.below i4.o).1).mono ?_; rintro e D ⟨z6,rfl,c9,b4⟩; obtain ⟨s6,p6,Z,c6,rfl⟩:=c9.shape; obtain ⟨I,b3⟩:=exW (D.alloc (.cells #[.bool s6,.slice p6 Z c6] 82)); have b8:Up D I:=by rw [← b3]; exact below_alloc _ _
 have f7:Bx I D.heap.size [.bool s6,.slice p6 Z c6]:=by rw [← b3]; exact bx_new D _ _
 have l0:=Hd b3; have e6:=Hd f7; have l3:=Hd (c9.below b8); have y:Hid (Up W3 I):=(E.o.trans (b4.mono E.o.size)).trans (b8.mono (E.o.trans (b4.mono E.o.size)).size); have a7:Hid (Up w I):=a6.o.trans (y.o.mono a6.o.size); have b6:Hid (∀ W,Up I W→(W.cell? ⟨w.heap.size,0,none⟩=some (.int .i64 (col:Nat))∧W.cell? ⟨w.heap.size,1,none⟩=some (.string (strOf f.pl)))∧(W.cell? ⟨D.heap.size,0,none⟩=some (.bool s6)∧W.cell? ⟨D.heap.size,1,none⟩=some (.slice p6 Z c6))∧(Bx W (w.heap.size+1) [.slice none 0 0,.bool false,.string ⟨#[]⟩]∧Bx W (w.heap.size+1+1) [.slice none 0 0,.bool false,.string ⟨#[]⟩])):=fun W hW=>by
  have U:=e3.o.below e3.o.lt (y.o.trans (hW.mono y.o.size)); exact ⟨⟨U.c3.1,U.c3.2.1⟩,(e6.o.below e6.o.lt hW).c2,e4.o.below e4.o.lt (y.o.trans (hW.mono y.o.size)),e5.o.below e5.o.lt (y.o.trans (hW.mono y.o.size))⟩
 obtain ⟨⟨m0,m1⟩,⟨m2,m3⟩,-⟩:=b6.o I (Below.refl _ _); have d8:Hid (w5.heap.size≤D.heap.size):=b4.size; clear c9 b4 b3 b8 f7
 go_wp2_with (rw [l0.o])
 have i7:Hid (∀ W,Up I W→Calls Tryz.prog 94 #[.int .i64 (n:Nat),.int .i64 (col:Nat),.string ⟨#[49]⟩,.string (strOf f.pl)] W fun e w'=>∃ g,e=.returned (.agg #[.slice (some ⟨g,0,none⟩) n n,.bool false,.string (strOf f.pl)])∧w'.ownsRow I.heap.size 9 1 (.slice (some ⟨g,0,none⟩) n n) n (strsC (oneRow n col [49] f.pl).cs)∧Up I w'):=fun W hW=>by
  refine (columnRow_any n col [49] f.pl W hn hc).mono ?_; rintro e w' ⟨g,rfl,U,h2⟩; exact ⟨g,rfl,own_lower U hW.size,hW.trans (h2.mono hW.size)⟩
 have i8:Hid (∀ W u,Up I W→Calls Tryz.prog 94 #[.int .i64 (n:Nat),.int .i64 (col:Nat),.string ⟨#[45,49]⟩,.string u] W fun e w'=>∃ g,e=.returned (.agg #[.slice (some ⟨g,0,none⟩) n n,.bool false,.string u])∧w'.ownsRow I.heap.size 9 1 (.slice (some ⟨g,0,none⟩) n n) n (strsC (oneRow n col [45,49] u.data.toList).cs)∧Up I w'∧Up W w'):=fun W u hW=>by
  have h:=columnRow_any n col [45,49] u.data.toList W hn hc; rw [strOf_data] at h; refine h.mono ?_; rintro e w' ⟨g,rfl,U,h2⟩; exact ⟨g,rfl,own_lower U hW.size,hW.trans (h2.mono hW.size),h2⟩
 have j3:Hid (∀ W,Up I W→Calls Tryz.prog 81 #[.agg #[.bool s6,.slice p6 Z c6]] W fun e w'=>∃ z,e=.returned z∧IsI 0 w' z (-(numT (strOf f.pl)+1)) 284∧Up I w'∧Up W w'):=fun W hW=>by
  refine (negated_any 0 _ _ 284 W ((l3.o.below hW).mono (Nat.zero_le _) leR)).mono ?_; rintro e w' ⟨z,rfl,U,h2⟩; exact ⟨z,rfl,U,hW.trans (h2.mono hW.size),h2⟩
 have j2:Hid (∀ W z,Up I W→IsI 0 W z (-(numT (strOf f.pl)+1)) 284→Calls Tryz.prog 95 #[z] W fun e w'=>∃ u,e=.returned (.string u)∧IsText (-(numT (strOf f.pl)+1)) u∧Up I w'∧Up W w'):=fun W z hW hz=>by
  have h5:=text_lt5 d3.o; refine (longI_any 0 z _ 6 W (tight6 hz (by have:=lt56 h5; omega)) (by omega) (HT.o.below (a7.o.trans (hW.mono a7.o.size))).2.2).mono ?_; rintro e w' ⟨u,rfl,U,h2⟩; exact ⟨u,rfl,U,hW.trans (h2.mono hW.size),h2⟩
 have O:Hid (∀ W,Up I W→W.cell? ⟨w.heap.size,0,none⟩=some (.int .i64 (col:Nat))∧W.cell? ⟨w.heap.size,1,none⟩=some (.string (strOf f.pl))∧W.cell? ⟨D.heap.size,0,none⟩=some (.bool s6)∧W.cell? ⟨D.heap.size,1,none⟩=some (.slice p6 Z c6)):=fun W hW=>by
  obtain ⟨⟨m0,m1⟩,⟨m2,m3⟩,-⟩:=b6.o W hW; exact ⟨m0,m1,m2,m3⟩
 have H:Hid (∀ (W:World) (k i:Nat) (u:Value),k=w.heap.size+1∨k=w.heap.size+1+1→(W.cell? ⟨w.heap.size,0,none⟩=some (.int .i64 (col:Nat))∧W.cell? ⟨w.heap.size,1,none⟩=some (.string (strOf f.pl))∧W.cell? ⟨D.heap.size,0,none⟩=some (.bool s6)∧W.cell? ⟨D.heap.size,1,none⟩=some (.slice p6 Z c6))→((W.setCell ⟨k,i,none⟩ u).cell? ⟨w.heap.size,0,none⟩=some (.int .i64 (col:Nat))∧(W.setCell ⟨k,i,none⟩ u).cell? ⟨w.heap.size,1,none⟩=some (.string (strOf f.pl))∧(W.setCell ⟨k,i,none⟩ u).cell? ⟨D.heap.size,0,none⟩=some (.bool s6)∧(W.setCell ⟨k,i,none⟩ u).cell? ⟨D.heap.size,1,none⟩=some (.slice p6 Z c6))):=fun W k i u hk h=>by
  have n3:w.heap.size+1+1<D.heap.size:=by
   have U:=d7.o; have h2:=E.o.size; have h3:w5.heap.size≤D.heap.size:=d8.o; omega
  have ne:∀ (b j:Nat),b≠k→(⟨k,i,none⟩:Addr)≠⟨b,j,none⟩:=fun b j hb e=>by injection e with e1; exact hb e1.symm
  refine ⟨(World.cell?_setCell_other _ _ _ _ (ne _ _ (by omega))).trans h.1,(World.cell?_setCell_other _ _ _ _ (ne _ _ (by omega))).trans h.2.1,(World.cell?_setCell_other _ _ _ _ (ne _ _ (by omega))).trans h.2.2.1,(World.cell?_setCell_other _ _ _ _ (ne _ _ (by omega))).trans h.2.2.2⟩
 refine wrh 15 rfl (S:=fun w'=>w'.cell? ⟨w.heap.size,0,none⟩=some (.int .i64 (col:Nat))∧w'.cell? ⟨w.heap.size,1,none⟩=some (.string (strOf f.pl))∧w'.cell? ⟨D.heap.size,0,none⟩=some (.bool s6)∧w'.cell? ⟨D.heap.size,1,none⟩=some (.slice p6 Z c6)) (by kernel_rfl) (O.o _ (Below.refl _ _).drew) (fun hHeld=>?_); refine tk 0 12 (v:=?_) rfl rfl (by kernel_rfl) (fun _ _ _ h=>h) (Or.inl ⟨by rfl,?_⟩) (by assumption) ?_
 rotate_left
 ·(intro w s; (try dsimp only at s); go_simp; (try with_reducible rfl))
 try simp only [Act.put,List.setIfInBounds_toArray,List.set_cons_zero,List.set_cons_succ]
 refine tk 1 13 (v:=?_) rfl rfl (by kernel_rfl) (fun _ _ _ h=>h) (Or.inl ⟨by rfl,?_⟩) (by assumption) ?_
 rotate_left
 ·(intro w s; (try dsimp only at s); go_simp; (try with_reducible rfl))
 try simp only [Act.put,List.setIfInBounds_toArray,List.set_cons_zero,List.set_cons_succ]
 refine tk 2 14 (v:=?_) rfl rfl (by kernel_rfl) (fun _ _ _ h=>h) (Or.inl ⟨by rfl,?_⟩) (by assumption) ?_
 rotate_left
 ·(intro w s; (try dsimp only at s); go_simp; (try with_reducible rfl))
 try simp only [Act.put,List.setIfInBounds_toArray,List.set_cons_zero,List.set_cons_succ]
 refine tk 3 15 (v:=?_) rfl rfl (by kernel_rfl) (fun _ _ _ h=>h) (Or.inl ⟨by rfl,?_⟩) (by assumption) ?_
 rotate_left
 ·(intro w s; (try dsimp only at s); go_simp; (try with_reducible rfl))
 try simp only [Act.put,List.setIfInBounds_toArray,List.set_cons_zero,List.set_cons_succ]
 refine tk 4 16 (v:=?_) rfl rfl (by kernel_rfl) (fun _ _ _ h=>h) (Or.inl ⟨by rfl,?_⟩) (by assumption) ?_
 rotate_left
 ·(intro w s; (try dsimp only at s); go_simp; (try with_reducible rfl))
 try simp only [Act.put,List.setIfInBounds_toArray,List.set_cons_zero,List.set_cons_succ]
 refine tk 6 18 (v:=?_) rfl rfl (by kernel_rfl) (fun _ _ _ h=>h) (Or.inl ⟨by rfl,?_⟩) (by assumption) ?_
 rotate_left
 ·(intro w s; (try dsimp only at s); go_simp; (try with_reducible rfl))
 try simp only [Act.put,List.setIfInBounds_toArray,List.set_cons_zero,List.set_cons_succ]
 refine tk 7 19 (v:=?_) rfl rfl (by kernel_rfl) (fun _ _ _ h=>h) (Or.inl ⟨by rfl,?_⟩) (by assumption) ?_
 rotate_left
 ·(intro w s; (try dsimp only at s); go_simp; (try with_reducible rfl))
 try simp only [Act.put,List.setIfInBounds_toArray,List.set_cons_zero,List.set_cons_succ]
 refine tk 8 20 (v:=?_) rfl rfl (by kernel_rfl) (fun _ _ _ h=>h) (Or.inl ⟨by rfl,?_⟩) (by assumption) ?_
 rotate_left
 ·(intro w s; (try dsimp only at s); go_simp; (try with_reducible rfl))
 try simp only [Act.put,List.setIfInBounds_toArray,List.set_cons_zero,List.set_cons_succ]
 refine tk 9 21 (v:=?_) rfl rfl (by kernel_rfl) (fun _ _ _ h=>h) (Or.inl ⟨by rfl,?_⟩) (by assumption) ?_
 rotate_left
 ·(intro w s; (try dsimp only at s); go_simp; (try with_reducible rfl))
 try simp only [Act.put,List.setIfInBounds_toArray,List.set_cons_zero,List.set_cons_succ]
 refine wpAnyH_ready (rs:=[5]) (by kernel_rfl) (by simp) ?_; refine AllReadyH.cons rfl (fun K hK=>?_) AllReadyH.nil
 go_simp
 go_at_call 94
 refine (i7.o _ (Below.refl _ _).drew).mono ?_; rintro e wa ⟨ga,rfl,h7,g7⟩; have j6:=Hd h7; have d4:=Hd g7; clear h7 g7
 go_wp2_with fail
 refine hK.out _ _ (O.o _ d4.o) (fun hHeld5=>?_); clear hK K
 try simp only [Act.put,List.setIfInBounds_toArray,List.set_cons_zero,List.set_cons_succ]
 refine wpAnyH_ready (rs:=[10]) (by kernel_rfl) (by simp) ?_; refine AllReadyH.cons rfl (fun K hK=>?_) AllReadyH.nil
 go_simp
 go_at_call 81
 refine (j3.o _ d4.o).mono ?_; rintro e wb ⟨zb,rfl,d0,g8,f9⟩; obtain ⟨sb,pb,lb,cb,rfl⟩:=d0.shape; have l7:=Hd d0; have d5:=Hd g8; have j7:=Hd (row_below j6.o f9); clear d0 g8 f9
 go_wp2_with fail
 refine hK.out _ _ (O.o _ d5.o) (fun hHeld10=>?_); clear hK K
 try simp only [Act.put,List.setIfInBounds_toArray,List.set_cons_zero,List.set_cons_succ]
 refine wpAnyH_ready (rs:=[11]) (by kernel_rfl) (by simp) ?_; refine AllReadyH.cons rfl (fun K hK=>?_) AllReadyH.nil
 go_simp
 go_at_call 95
 refine (j2.o _ _ d5.o l7.o).mono ?_; rintro e wc ⟨uc,rfl,i1,g9,g3⟩; have k8:=Hd i1; have d6:=Hd g9; have j8:=Hd (row_below j7.o g3); clear i1 g9 g3
 go_wp2_with fail
 refine hK.out _ _ (O.o _ d6.o) (fun hHeld11=>?_); clear hK K
 try simp only [Act.put,List.setIfInBounds_toArray,List.set_cons_zero,List.set_cons_succ]
 refine wpAnyH_ready (rs:=[12]) (by kernel_rfl) (by simp) ?_; refine AllReadyH.cons rfl (fun K hK=>?_) AllReadyH.nil
 go_simp
 go_at_call 94
 refine (i8.o _ _ d6.o).mono ?_; rintro e wd ⟨gd,rfl,h8,h0,g4⟩; have j9:=Hd h8; have a8:=Hd h0; have k0:=Hd (row_below j8.o g4); clear h8 h0 g4
 go_wp2_with fail
 refine hK.out _ _ (O.o _ a8.o) (fun hHeld12=>?_); clear hK K
 try simp only [Act.put,List.setIfInBounds_toArray,List.set_cons_zero,List.set_cons_succ]
 obtain ⟨-,-,T,h9⟩:=b6.o wd a8.o; obtain ⟨t0,t1,t2⟩:=T.c3; have f0:=T.frozen 0; have f1:=T.frozen 1; have f2:=T.frozen 2; have h6:w.heap.size+1+1<I.heap.size:=by
  have U:=d7.o; have h2:=y.o.size; omega
 have m:=Hd h6; clear h6; obtain ⟨Y,J⟩:=exW (((wd.setCell ⟨w.heap.size+1,0,none⟩ (.slice (some ⟨ga,0,none⟩) n n)).setCell ⟨w.heap.size+1,1,none⟩ (.bool false)).setCell ⟨w.heap.size+1,2,none⟩ (.string (strOf f.pl))); have i9:Hid (Bx Y (w.heap.size+1) [.slice (some ⟨ga,0,none⟩) n n,.bool false,.string (strOf f.pl)]):=by unfold Hid; rw [← J]; exact ((T.set 0 _).set 1 _).set 2 _
 have V:Hid (Bx Y (w.heap.size+1+1) [.slice none 0 0,.bool false,.string ⟨#[]⟩]):=by unfold Hid; rw [← J]; exact bx_far3 h9 (by omega) _ _ _ _ _ _
 have i5:Hid (Up w Y):=by unfold Hid; rw [← J]; exact (((a7.o.trans (a8.o.mono a7.o.size)).setCell (p:=⟨w.heap.size+1,0,none⟩) (by show _≤w.heap.size+1; omega) _).setCell (p:=⟨w.heap.size+1,1,none⟩) (by show _≤w.heap.size+1; omega) _).setCell (p:=⟨w.heap.size+1,2,none⟩) (by show _≤w.heap.size+1; omega) _
 have j4:Hid (Y.ownsRow I.heap.size 9 1 (.slice (some ⟨ga,0,none⟩) n n) n (strsC (oneRow n col [49] f.pl).cs)):=by unfold Hid; rw [← J]; exact ownsRow_setCell_below (ownsRow_setCell_below (ownsRow_setCell_below k0.o (by show w.heap.size+1<_; have:=m.o; omega) _) (by show w.heap.size+1<_; have:=m.o; omega) _) (by show w.heap.size+1<_; have:=m.o; omega) _
 have j5:Hid (Y.ownsRow I.heap.size 9 1 (.slice (some ⟨gd,0,none⟩) n n) n (strsC (oneRow n col [45,49] uc.data.toList).cs)):=by unfold Hid; rw [← J]; exact ownsRow_setCell_below (ownsRow_setCell_below (ownsRow_setCell_below j9.o (by show w.heap.size+1<_; have:=m.o; omega) _) (by show w.heap.size+1<_; have:=m.o; omega) _) (by show w.heap.size+1<_; have:=m.o; omega) _
 have e8:Y.cell? ⟨w.heap.size,0,none⟩=some (.int .i64 (col:Nat))∧Y.cell? ⟨w.heap.size,1,none⟩=some (.string (strOf f.pl))∧Y.cell? ⟨D.heap.size,0,none⟩=some (.bool s6)∧Y.cell? ⟨D.heap.size,1,none⟩=some (.slice p6 Z c6):=by rw [← J]; exact H.o _ _ _ _ (.inl rfl) (H.o _ _ _ _ (.inl rfl) (H.o _ _ _ _ (.inl rfl) (O.o _ a8.o)))
 have e0:=Hd J; have d9:=Hd e8; clear J e8 T h9; refine wpAnyH_ready (rs:=[13]) (by kernel_rfl) (by simp) ?_; refine AllReadyH.cons rfl (fun K hK=>?_) AllReadyH.nil
 go_simp
 go_wp2_with (rw [e0.o])
 try rw [e0.o]
 refine hK.out _ _ d9.o (fun hHeld13=>?_); clear hK K t0 t1 t2 f0 f1 f2
 try simp only [Act.put,List.setIfInBounds_toArray,List.set_cons_zero,List.set_cons_succ]
 obtain ⟨o0,o1,o2⟩:=V.o.c3; have g0:=V.o.frozen 0; have g1:=V.o.frozen 1; have g2:=V.o.frozen 2; obtain ⟨WF,M⟩:=exW (((Y.setCell ⟨w.heap.size+1+1,0,none⟩ (.slice (some ⟨gd,0,none⟩) n n)).setCell ⟨w.heap.size+1+1,1,none⟩ (.bool false)).setCell ⟨w.heap.size+1+1,2,none⟩ (.string uc)); have j1:Hid (Bx WF (w.heap.size+1+1) [.slice (some ⟨gd,0,none⟩) n n,.bool false,.string uc]):=by unfold Hid; rw [← M]; exact ((V.o.set 0 _).set 1 _).set 2 _
 have j0:Hid (Bx WF (w.heap.size+1) [.slice (some ⟨ga,0,none⟩) n n,.bool false,.string (strOf f.pl)]):=by unfold Hid; rw [← M]; exact bx_far3 i9.o (by omega) _ _ _ _ _ _
 have i6:Hid (Up w WF):=by unfold Hid; rw [← M]; exact ((i5.o.setCell (p:=⟨w.heap.size+1+1,0,none⟩) (by show _≤w.heap.size+1+1; omega) _).setCell (p:=⟨w.heap.size+1+1,1,none⟩) (by show _≤w.heap.size+1+1; omega) _).setCell (p:=⟨w.heap.size+1+1,2,none⟩) (by show _≤w.heap.size+1+1; omega) _
 have k1:Hid (WF.ownsRow w.heap.size 9 1 (.slice (some ⟨ga,0,none⟩) n n) n (strsC (oneRow n col [49] f.pl).cs)):=by unfold Hid; rw [← M]; exact own_lower (ownsRow_setCell_below (ownsRow_setCell_below (ownsRow_setCell_below j4.o (by exact m.o) _) (by exact m.o) _) (by exact m.o) _) (by have:=m.o; omega)
 have k5:Hid (WF.ownsRow w.heap.size 9 1 (.slice (some ⟨gd,0,none⟩) n n) n (strsC (oneRow n col [45,49] uc.data.toList).cs)):=by unfold Hid; rw [← M]; exact own_lower (ownsRow_setCell_below (ownsRow_setCell_below (ownsRow_setCell_below j5.o (by exact m.o) _) (by exact m.o) _) (by exact m.o) _) (by have:=m.o; omega)
 have e9:WF.cell? ⟨w.heap.size,0,none⟩=some (.int .i64 (col:Nat))∧WF.cell? ⟨w.heap.size,1,none⟩=some (.string (strOf f.pl))∧WF.cell? ⟨D.heap.size,0,none⟩=some (.bool s6)∧WF.cell? ⟨D.heap.size,1,none⟩=some (.slice p6 Z c6):=by rw [← M]; exact H.o _ _ _ _ (.inr rfl) (H.o _ _ _ _ (.inr rfl) (H.o _ _ _ _ (.inr rfl) d9.o))
 have e2:=Hd M; have k7:=Hd e9; clear M e9; refine wpAnyH_ready (rs:=[14]) (by kernel_rfl) (by simp) ?_; refine AllReadyH.cons rfl (fun K hK=>?_) AllReadyH.nil
 go_simp
 go_wp2_with (rw [e2.o])
 try rw [e2.o]
 refine hK.out _ _ k7.o (fun hHeld14=>?_); clear hK K o0 o1 o2 g0 g1 g2
 try simp only [Act.put,List.setIfInBounds_toArray,List.set_cons_zero,List.set_cons_succ]
 refine wpAnyH_done (by kernel_rfl) ?_ _; obtain ⟨o0,o1,o2⟩:=j1.o.c3; obtain ⟨t0,t1,t2⟩:=j0.o.c3
 go_wp2_with fail
 refine bodyPost_ret (v:=.tuple #[.agg #[.slice (some ⟨ga,0,none⟩) n n,.bool false,.string (strOf f.pl)],.agg #[.slice (some ⟨gd,0,none⟩) n n,.bool false,.string uc]]) ?_ rfl ⟨ga,gd,uc.data.toList,by rw [strOf_data],by rw [strOf_data]; exact k8.o,k1.o,k5.o,i6.o⟩; simp [results,Tryz.results56,go_sem,o0,o1,o2,t0,t1,t2]
theorem isZero_ask (B:Nat) (s:Bool) (p:Option Addr) (l c:Nat) (x:Int) (m:Nat) (w:World) (h:IsI B w (.agg #[.bool s,.slice p l c]) x m) :
 Calls Tryz.prog 47 #[.agg #[.bool s,.slice p l c]] w fun e w'=>e=.returned (.bool (decide (x=0)))∧Up w w':=by
 have j:=isI_isZero h; refine (isZero_any s p l c w).mono ?_; rintro e w' ⟨rfl,rfl⟩; exact ⟨by rw [j],below_alloc _ _⟩
theorem isNotZero_any (B:Nat) (s:Bool) (p:Option Addr) (l c:Nat) (x:Int) (m:Nat) (w:World) (h:IsI B w (.agg #[.bool s,.slice p l c]) x m) :
 Calls Tryz.prog 92 #[.agg #[.bool s,.slice p l c]] w fun e w'=>e=.returned (.bool (!decide (x=0)))∧Up w w':=by
 have H:=Hd h; clear h
 go_enter Tryz.func92,Tryz.ntmps92
 go_wp2_with fail
 refine (isZero_ask B s p l c x m _ (H.o.below (below_alloc _ _))).mono ?_; rintro e u ⟨rfl,hb⟩; have j:Hid (Up w u):=(below_alloc w _).trans (hb.mono (below_alloc w _).size); clear hb
 go_wp2_with fail
 go_ret
 exact ⟨rfl,j.o⟩
theorem IntRow.at {base:Nat} {W:World} {a:Option Addr} {b:Nat} {N:List Int} {m:Nat} (h:IntRow base W (.slice a N.length b) N m) {i:Nat} (hi:i<N.length):∃ (g:Nat) (s:Bool) (p:Option Addr) (l c:Nat),a=some ⟨g,0,none⟩∧g<W.heap.size∧base≤g∧W.cell? ⟨g,i*2,none⟩=some (.bool s)∧W.cell? ⟨g,i*2+1,none⟩=some (.slice p l c)∧IsI base W (.agg #[.bool s,.slice p l c]) N[i] m∧∀ q,p=some q→0<l→g≠q.block:=by
 obtain ⟨J,j,y⟩:=h; obtain ⟨g,rfl⟩:∃ g,a=some ⟨g,0,none⟩:=by
  rcases j.2 with ⟨e,D⟩|⟨g,cap,H,e,_⟩
  ·omega
  cases e; exact ⟨g,rfl⟩
 obtain ⟨s,p,l,c,e1,D,I,u⟩:=y i hi; have E:=j.cellAt (i*2) (by omega); have k2:=j.cellAt (i*2+1) (by omega); rw [e1] at E; rw [D] at k2; exact ⟨g,s,p,l,c,rfl,(j.lt g rfl).2,(j.lt g rfl).1,E,k2,I,fun q hq hl e=>u q hq hl (by rw [e]; rfl)⟩
theorem any_upto {N:List Int} {k:Nat} (hk:k<N.length) (h:N[k]≠0):N.any (fun x=>!decide (x=0))=true:=by
 rw [List.any_eq_true]; exact ⟨N[k],List.getElem_mem hk,by simp [h]⟩
theorem any_none {N:List Int} (h0:∀ j,j<N.length→N.getD j 0=0):N.any (fun x=>!decide (x=0))=false:=by
 rw [Bool.eq_false_iff]; intro h; rw [List.any_eq_true] at h; obtain ⟨x,u,s⟩:=h; obtain ⟨i,m,rfl⟩:=List.getElem_of_mem u; have:=h0 i m; rw [List.getD_eq_getElem?_getD,List.getElem?_eq_getElem m] at this; simp only [Option.getD_some] at this; simp [this] at s
theorem indexFunc_any (base:Nat) (v:Value) (N:List Int) (m:Nat) (w:World) (h:IntRow base w v N m) (hl:N.length≤1000) :
 Calls Tryz.prog 120 #[v,.func (.func 92) #[] #[]] w fun e w'=>∃ r:Int,e=.returned (.int .i64 r)∧decide (0≤r)=N.any (fun x=>!decide (x=0))∧Up w w':=by
 have H:=Hd h; obtain ⟨na,nb,rfl⟩:∃ a b,v=.slice a N.length b:=by
  obtain ⟨xs,hr,_⟩:=h
  rcases hr.2 with ⟨e,e2⟩|⟨g,cap,a5,e,_⟩
  ·exact ⟨none,0,by rw [e,e2]⟩
  exact ⟨_,_,e⟩
 clear h
 go_enter Tryz.func120,Tryz.ntmps120
 go_wp2_with fail
 go_loopw [5,8] (fun _ iv wr=>∃ k:Nat,k≤N.length∧iv=.int .i64 (k:Nat)∧(∀ j,j<k→N.getD j 0=0)∧Up w wr) (fun _ iv _=>N.length - (intOf iv).toNat)
 case atStart=>exact ⟨0,Nat.zero_le _,rfl,fun _ h=>absurd h (Nat.not_lt_zero _),Below.refl _ _⟩
 case round=>
  rename World=>wo
  obtain ⟨k,hk,rfl,Y,hb⟩:=hrel; have U:=Hd Y; have J:=Hd hb; clear Y hb
  by_cases y:k<N.length
  ·obtain ⟨g,s,p,l,c,rfl,-,-,k1,k2,Z,-⟩:=(H.o.below J.o).at y; have V:=Hd Z; have a7:(k:Int)<(N.length:Int):=by omega
   clear Z
   by_cases K:N[k]=0
   ·have O:=Hd K; have E:=Hd (isNotZero_any base s p l c _ m wo V.o); rw [K] at E; have I:Hid (Calls Tryz.prog 92 #[.agg #[.bool s,.slice p l c]] wo fun e w'=>e=.returned (.bool false)∧Up wo w'):=E.o; clear K E
    go_wp2_with fail
    refine I.o.mono ?_; rintro e T ⟨rfl,u⟩; have D:Hid (Up w T):=J.o.trans (u.mono J.o.size); clear u
    go_wp2_with fail
    go_roundw
    case rel=>
     refine ⟨k+1,y,by go_num,fun j hj=>?_,D.o⟩
     by_cases e:j=k
     ·rw [e,List.getD_eq_getElem?_getD,List.getElem?_eq_getElem y]; exact O.o
     ·exact U.o j (by omega)
    case measure=>simp [intOf]; omega
   ·have O:=Hd K; have E:=Hd (isNotZero_any base s p l c _ m wo V.o); rw [decide_eq_false K] at E; have I:Hid (Calls Tryz.prog 92 #[.agg #[.bool s,.slice p l c]] wo fun e w'=>e=.returned (.bool true)∧Up wo w'):=E.o; clear K E
    go_wp2_with fail
    refine I.o.mono ?_; rintro e T ⟨rfl,u⟩; have D:Hid (Up w T):=J.o.trans (u.mono J.o.size); clear u
    go_wp2_with fail
    go_ret
    exact ⟨_,rfl,by rw [any_upto y O.o]; exact decide_eq_true (by omega),D.o⟩
  ·have a8:¬ (k:Int)<(N.length:Int):=by omega
   have M:k=N.length:=by omega
   have HK:=Hd M; clear M
   go_wp2_with fail
   go_ret
   exact ⟨_,rfl,by rw [any_none (fun j hj=>U.o j (by rw [HK.o]; exact hj))]; rfl,J.o⟩
theorem containsFunc_any (base:Nat) (v:Value) (N:List Int) (m:Nat) (w:World) (h:IntRow base w v N m) (hl:N.length≤1000) :
 Calls Tryz.prog 91 #[v,.func (.func 92) #[] #[]] w fun e w'=>e=.returned (.bool (N.any (fun x=>!decide (x=0))))∧Up w w':=by
 have j:=Hd (indexFunc_any base v N m w h hl); obtain ⟨R,s⟩:=exW (N.any (fun x=>!decide (x=0))); rw [s] at j ⊢; clear h s
 go_enter Tryz.func91,Tryz.ntmps91
 go_wp2_with fail
 refine j.o.mono ?_; rintro e D ⟨r,rfl,y,hb⟩; have u:=Hd hb; clear hb j
 go_wp2_with fail
 go_ret
 exact ⟨by rfl,u.o⟩
theorem made_at (n i:Nat) (hi:i<n):(madeCells (Value.cells (.agg #[.bool false,.slice none 0 0])) (n*2)).toList[i*2]? = some (.bool false)∧(madeCells (Value.cells (.agg #[.bool false,.slice none 0 0])) (n*2)).toList[i*2+1]? = some (.slice none 0 0):=by
 have j:i*2<n*2:=by omega
 have h2:i*2+1<n*2:=by omega
 have e1:i*2 % 2=0:=by omega
 have h:(i*2+1) % 2=1:=by omega
 constructor
 ·simp [madeCells,Value.cells,j,e1]
 simp [madeCells,Value.cells,h2,h]
theorem IntRow.zero {base:Nat} {W:World} {v:Value} {n:Nat} (m:Nat) (h:W.ownsRow base 82 2 v n (madeCells (Value.cells (.agg #[.bool false,.slice none 0 0])) (n*2)).toList):IntRow base W v (List.replicate n 0) m:=by
 refine ⟨_,by rw [List.length_replicate]; exact h,fun i hi=>?_⟩; rw [List.length_replicate] at hi; refine ⟨false,none,0,0,(made_at n i hi).1,(made_at n i hi).2,?_,fun a e=>by cases e⟩; rw [List.getElem_replicate]; exact isI_zero _ _ _
theorem int_size {s:List UInt8} (h:isIntB (strOf s)=true):s.length≤2501:=by
 have j:=dgs_ge (strOf s); rw [strOf_size] at j; unfold isIntB at h; simp only [Bool.and_eq_true,decide_eq_true_eq] at h; omega
theorem cutJ_any (s:List UInt8) (w:World) (hi:isIntB (strOf s)=true) :
 Calls Tryz.prog 49 #[.string (strOf s)] w fun e w'=>∃ s1 p l c,e=.returned (.agg #[.bool s1,.slice p l c])∧IsI w.heap.size w' (.agg #[.bool s1,.slice p l c]) (numT (strOf s)) 280∧Up w w':=by
 refine (cutInteger_any (strOf s) w (by rw [strOf_size]; unfold maxLen; have:=int_size hi; omega) hi).mono ?_; rintro e w' ⟨v,rfl,j,hb⟩; have h:=j; obtain ⟨p,c,rfl,-⟩:=h; exact ⟨_,p,_,c,rfl,⟨isNeg (strOf s),_,lim (strOf s),rfl,j,trimL_trim _,rfl,lim_len' _ hi⟩,hb⟩
theorem readJ_any (s:List UInt8) (w:World) (hs:s.length≤1048576) :
 Calls Tryz.prog 88 #[.string (strOf s)] w fun e w'=>∃ s1 p l c,e=.returned (.tuple #[.agg #[.bool s1,.slice p l c],.bool (isIntB (strOf s))])∧(isIntB (strOf s)=true→IsI w.heap.size w' (.agg #[.bool s1,.slice p l c]) (numT (strOf s)) 280)∧Up w w':=by
 cases j:isIntB (strOf s)
 ·refine (readInteger_no (strOf s) w (by rw [strOf_size]; unfold maxLen; omega) j).mono ?_; rintro e w' ⟨rfl,hb⟩; exact ⟨false,none,0,0,rfl,(fun h=>by cases h),hb⟩
 refine (readInteger_yes (strOf s) w (by rw [strOf_size]; unfold maxLen; omega) j).mono ?_; rintro e w' ⟨v,rfl,u,hb⟩; have m:=u; obtain ⟨p,c,rfl,-⟩:=m; exact ⟨_,p,_,c,rfl,(fun _=>⟨isNeg (strOf s),_,lim (strOf s),rfl,u,trimL_trim _,rfl,lim_len' _ j⟩),hb⟩
theorem compareI_any (B:Nat) (za zb:Value) (x y:Int) (n m:Nat) (w:World) (ha:IsI B w za x n) (hb:IsI B w zb y m) (h:SP w) :
 Calls Tryz.prog 89 #[za,zb] w fun e w'=>e=.returned (.int .i64 (ordI x y))∧Up w w':=by
 obtain ⟨u,va,a,rfl,j,I,rfl,_⟩:=ha; obtain ⟨D,K,b,rfl,s,J,rfl,_⟩:=hb; have E:okL a:=by obtain ⟨_,_,_,_,_,o,_⟩:=j; exact o
 have H:okL b:=by obtain ⟨_,_,_,_,_,o,_⟩:=s; exact o
 refine (compare_any B _ _ va K a b w j s h).mono ?_; rintro e w' ⟨rfl,hb⟩; exact ⟨by rw [cmpI_ord u D a b E H I J],hb⟩
structure BxQ (h:Nat) (W:World) (s1:Bool) (p1:Option Addr) (l1 c1:Nat) (s2:Bool) (p2:Option Addr) (l2 c2:Nat) (s3:Bool) (p3:Option Addr) (l3 c3:Nat) (s4:Bool) (p4:Option Addr) (l4 c4:Nat):Prop where
 a:Bx W h [.bool s1,.slice p1 l1 c1,.bool s2,.slice p2 l2 c2]
 b:Bx W (h+1) [.bool s3,.slice p3 l3 c3,.bool s4,.slice p4 l4 c4]
theorem BxQ.below {h N:Nat} {W W':World} {s1:Bool} {p1:Option Addr} {l1 c1:Nat} {s2:Bool} {p2:Option Addr} {l2 c2:Nat} {s3:Bool} {p3:Option Addr} {l3 c3:Nat} {s4:Bool} {p4:Option Addr} {l4 c4:Nat} (m:BxQ h W s1 p1 l1 c1 s2 p2 l2 c2 s3 p3 l3 c3 s4 p4 l4 c4) (hN:h+2≤N) (hb:Below N W W'):BxQ h W' s1 p1 l1 c1 s2 p2 l2 c2 s3 p3 l3 c3 s4 p4 l4 c4:=
 ⟨m.a.below (by omega) hb,m.b.below (by omega) hb⟩
theorem BxQ.held {h:Nat} {W:World} {s1:Bool} {p1:Option Addr} {l1 c1:Nat} {s2:Bool} {p2:Option Addr} {l2 c2:Nat} {s3:Bool} {p3:Option Addr} {l3 c3:Nat} {s4:Bool} {p4:Option Addr} {l4 c4:Nat} (m:BxQ h W s1 p1 l1 c1 s2 p2 l2 c2 s3 p3 l3 c3 s4 p4 l4 c4):W.cell? ⟨h,0,none⟩=some (.bool s1)∧W.cell? ⟨h,1,none⟩=some (.slice p1 l1 c1)∧W.cell? ⟨h,2,none⟩=some (.bool s2)∧W.cell? ⟨h,3,none⟩=some (.slice p2 l2 c2)∧W.cell? ⟨h+1,0,none⟩=some (.bool s3)∧W.cell? ⟨h+1,1,none⟩=some (.slice p3 l3 c3)∧W.cell? ⟨h+1,2,none⟩=some (.bool s4)∧W.cell? ⟨h+1,3,none⟩=some (.slice p4 l4 c4):=
 ⟨m.a.cell 0,m.a.cell 1,m.a.cell 2,m.a.cell 3,m.b.cell 0,m.b.cell 1,m.b.cell 2,m.b.cell 3⟩
/-! ## The sums on their way -/
def sumsL (n:Nat) (G:List Nr) (M:List Int) (k col:Nat):List Int:=(List.range n).map (fun c=>addC G M c (if c<col then k+1 else k))
theorem sumsL_len (n:Nat) (G:List Nr) (M:List Int) (k col:Nat):(sumsL n G M k col).length=n:=by unfold sumsL; simp
theorem sumsL_at {n:Nat} {G:List Nr} {M:List Int} {k col c:Nat} (h:c<(sumsL n G M k col).length):(sumsL n G M k col)[c]=addC G M c (if c<col then k+1 else k):=by simp only [sumsL,List.getElem_map,List.getElem_range]
theorem sumsL_zero (n:Nat) (G:List Nr) (M:List Int):sumsL n G M 0 0=List.replicate n 0:=by
 refine List.ext_getElem (by rw [sumsL_len,List.length_replicate]) fun i h1 h2=>?_; rw [sumsL_at h1,List.getElem_replicate,if_neg (Nat.not_lt_zero _)]; rfl
theorem sumsL_next (n:Nat) (G:List Nr) (M:List Int) (k:Nat):sumsL n G M k n=sumsL n G M (k+1) 0:=by
 refine List.ext_getElem (by rw [sumsL_len,sumsL_len]) fun i h1 h2=>?_; rw [sumsL_at h1,sumsL_at h2,if_neg (Nat.not_lt_zero _),if_pos (by rw [sumsL_len] at h1; exact h1)]
theorem sumsL_set {n:Nat} {G:List Nr} {M:List Int} {k col:Nat}:(sumsL n G M k col).set col (addC G M col (k+1))=sumsL n G M k (col+1):=by
 refine List.ext_getElem (by rw [List.length_set,sumsL_len,sumsL_len]) fun i h1 h2=>?_; rw [List.getElem_set,sumsL_at h2]
 by_cases e:col=i
 ·rw [if_pos e,if_pos (by omega),e]
 rw [if_neg e]; rw [List.length_set] at h1; rw [sumsL_at h1]
 by_cases h:i<col
 ·rw [if_pos h,if_pos (by omega)]
 rw [if_neg h,if_neg (by omega)]
theorem addC_lt {G:List Nr} {M:List Int} {col:Nat} (hM:∀ k,(M.getD k 0).natAbs<lb 280) (hG:∀ k,((G.getD k nr0).cs.getD col 0).natAbs<lb 6):∀ k,(addC G M col k).natAbs<lb (286+k)
 | 0=>Nat.lt_trans Nat.zero_lt_one (lb_one _ (by omega))
 | k+1=>by
   refine Nat.lt_of_le_of_lt (Int.natAbs_add_le _ _) (lb_add (286+k) (addC_lt hM hG k) ?_)
   rw [Int.natAbs_mul]
   exact lb_le (280+6) (286+k) (by omega) (lb_mul 280 6 (hM k) (hG k))
theorem addD_lt {G:List Nr} {M:List Int} (hM:∀ k,(M.getD k 0).natAbs<lb 280) (hG:∀ k,(G.getD k nr0).bd.natAbs<lb 6):∀ k,(addD G M k).natAbs<lb (286+k)
 | 0=>Nat.lt_trans Nat.zero_lt_one (lb_one _ (by omega))
 | k+1=>by
   refine Nat.lt_of_le_of_lt (Int.natAbs_add_le _ _) (lb_add (286+k) (addD_lt hM hG k) ?_)
   rw [Int.natAbs_mul]
   exact lb_le (280+6) (286+k) (by omega) (lb_mul 280 6 (hM k) (hG k))
theorem rowsC_lt {G:List Nr} (h:∀ f∈G,SmN f) (k col:Nat):((G.getD k nr0).cs.getD col 0).natAbs<lb 6:=by
 have j:(0:Int).natAbs<lb 6:=by unfold lb; decide
 rw [List.getD_eq_getElem?_getD,List.getD_eq_getElem?_getD]
 by_cases hk:k<G.length
 ·rw [List.getElem?_eq_getElem hk]
  show ((G[k].cs)[col]?.getD 0).natAbs<lb 6
  by_cases m:col<G[k].cs.length
  ·rw [List.getElem?_eq_getElem m]; exact (h _ (List.getElem_mem hk)).1 _ (List.getElem_mem m)
  have e:G[k].cs[col]? = none:=List.getElem?_eq_none (by omega); rw [e]; exact j
 have e:G[k]? = none:=List.getElem?_eq_none (by omega); rw [e]; have s:nr0.cs[col]? = none:=rfl
 show (nr0.cs[col]?.getD 0).natAbs<lb 6
 rw [s]; exact j
theorem rowsD_lt {G:List Nr} (h:∀ f∈G,SmN f) (k:Nat):(G.getD k nr0).bd.natAbs<lb 6:=by
 rw [List.getD_eq_getElem?_getD]
 by_cases hk:k<G.length
 ·rw [List.getElem?_eq_getElem hk]; exact (h _ (List.getElem_mem hk)).2
 rw [List.getElem?_eq_none (by omega)]
 show (0:Int).natAbs<lb 6
 unfold lb; decide
theorem map_at {F:List Lr} {k:Nat} (h:k<F.length):(F.map nrOf).getD k nr0=nrOf F[k]:=by
 rw [List.getD_eq_getElem?_getD,List.getElem?_map,List.getElem?_eq_getElem h]; rfl
def clipM (mu:List (List UInt8)):List Int:=mu.map (fun s=>if isIntB (strOf s)=true then numT (strOf s) else 0)
theorem clip_lt (mu:List (List UInt8)) (k:Nat):((clipM mu).getD k 0).natAbs<lb 280:=by
 have j:(0:Int).natAbs<lb 280:=Nat.lt_trans (by decide) (lb_one 280 (by decide)); unfold clipM; rw [List.getD_eq_getElem?_getD,List.getElem?_map]
 cases h:mu[k]? with
 | none=>exact j
 | some s=>
   show (if isIntB (strOf s)=true then numT (strOf s) else 0:Int).natAbs<lb 280
   split
   ·rename_i hi; exact numT_lt _ hi
   ·exact j
theorem clip_all {mu:List (List UInt8)} (h:mu.all multOk=true):clipM mu=numsM mu:=by
 unfold clipM numsM; refine List.map_congr_left fun s hs=>?_; have:=List.all_eq_true.1 h s hs; unfold multOk at this; rw [if_pos (Bool.and_eq_true_iff.1 this).1]
theorem clip_at {mu:List (List UInt8)} {k:Nat} (h:k<mu.length) (hi:isIntB (strOf mu[k])=true):(clipM mu).getD k 0=numT (strOf mu[k]):=by
 unfold clipM; rw [List.getD_eq_getElem?_getD,List.getElem?_map,List.getElem?_eq_getElem h]
 show (if isIntB (strOf mu[k])=true then numT (strOf mu[k]) else 0:Int)=_
 rw [if_pos hi]
theorem adds_no {n:Nat} {G:List Nr} {mu:List (List UInt8)} {k:Nat} (h:k<mu.length) (hb:multOk mu[k]=false):addsB n G mu=false:=by
 have:mu.all multOk=false:=by
  rw [Bool.eq_false_iff]; intro j; rw [List.all_eq_true.1 j _ (List.getElem_mem h)] at hb; cases hb
 unfold addsB; rw [this,Bool.false_and,Bool.and_false]
theorem all_of {mu:List (List UInt8)} (h:∀ i (_:i<mu.length),multOk mu[i]=true):mu.all multOk=true:=List.all_eq_true.2 fun s hs=>by
 obtain ⟨i,j,rfl⟩:=List.getElem_of_mem hs
 exact h i j
theorem any_sums (n:Nat) (G:List Nr) (M:List Int) (k:Nat):(sumsL n G M k 0).any (fun x=>!decide (x=0))=!(List.range n).all (fun c=>decide (addC G M c k=0)):=by
 unfold sumsL; rw [List.any_map,List.not_all_eq_any_not]; simp [Function.comp_def]
end Go.Proofs.YtfclfbpjjlinhaaGreatDoor.L
