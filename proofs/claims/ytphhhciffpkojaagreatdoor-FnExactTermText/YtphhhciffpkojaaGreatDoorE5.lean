import Derived.Test.YtphhhciffpkojaaGreatDoorP00
import Derived.Test.YtphhhciffpkojaaGreatDoorE4
set_option maxRecDepth 100000
set_option maxHeartbeats 4000000
set_option linter.all false
namespace Go.Proofs.YtphhhciffpkojaaGreatDoor
open ChangeShapes WideShapes ChangeAt RowKit Proofs.Tryz
def oJ:List (List UInt8):=JF.set 15 []
def yU:Array Value:=#[.string ⟨#[]⟩,.string ⟨#[116,114,117,101]⟩,.string ⟨#[102,97,108,115,101]⟩,.string ⟨#[110,111,116]⟩,.string ⟨#[97,110,100]⟩,.string ⟨#[111,114]⟩,.string ⟨#[120,111,114]⟩,.string ⟨#[61,62]⟩,.string ⟨#[105,116,101]⟩,.string ⟨#[61]⟩,.string ⟨#[100,105,115,116,105,110,99,116]⟩,.string ⟨#[]⟩,.string ⟨#[]⟩,.string ⟨#[43]⟩,.string ⟨#[45]⟩,.string ⟨#[]⟩,.string ⟨#[42]⟩,.string ⟨#[60,61]⟩,.string ⟨#[60]⟩,.string ⟨#[62,61]⟩,.string ⟨#[62]⟩,.string ⟨#[100,105,118]⟩,.string ⟨#[109,111,100]⟩,.string ⟨#[116,111,95,114,101,97,108]⟩,.string ⟨#[]⟩,.string ⟨#[98,118,110,111,116]⟩,.string ⟨#[98,118,110,101,103]⟩,.string ⟨#[98,118,97,110,100]⟩,.string ⟨#[98,118,111,114]⟩,.string ⟨#[98,118,120,111,114]⟩,.string ⟨#[98,118,97,100,100]⟩,.string ⟨#[98,118,115,117,98]⟩,.string ⟨#[98,118,109,117,108]⟩,.string ⟨#[98,118,117,100,105,118]⟩,.string ⟨#[98,118,117,114,101,109]⟩,.string ⟨#[98,118,115,104,108]⟩,.string ⟨#[98,118,108,115,104,114]⟩,.string ⟨#[98,118,97,115,104,114]⟩,.string ⟨#[98,118,117,108,116]⟩,.string ⟨#[98,118,117,108,101]⟩,.string ⟨#[98,118,115,108,116]⟩,.string ⟨#[98,118,115,108,101]⟩,.string ⟨#[99,111,110,99,97,116]⟩,.string ⟨#[]⟩,.string ⟨#[]⟩,.string ⟨#[]⟩,.string ⟨#[115,101,108,101,99,116]⟩,.string ⟨#[115,116,111,114,101]⟩]
theorem yO:(List.range 48).all (fun n=>decide (n<48)&&(match yU[n]? with|some (.string s)=>decide (s.data.toList=oJ.getD n [])|_=>false))=true:=by decide
theorem yG {n:Nat}(h:n<48):yU[n]? = some (.string (Oo (oJ.getD n []))):=by
 have j:=Jt.1 yO n (Y5.2 h);rw[J3] at j;have d:=j.2
 split at d
 ·rename_i s e;rw[e,<-of_decide_eq_true d,Kq]
 cases d
theorem WL (w:World):Calls prog 123 #[] w fun e w'=>e=.returned (.slice (some ⟨w.heap.size,0,none⟩) 48 48)/\(∀ n,n<48->w'.cell? ⟨w.heap.size,n,none⟩=some (.string (Oo (oJ.getD n []))))/\Up w w':=by
 obtain⟨h,d⟩:=Oa (w.alloc (.cells yU 9));have j:Hid (Up w h):=by unfold Hid;rw[<-d];exact Oz _ _
 have E:Hid (Bx h w.heap.size yU.toList):=by unfold Hid;rw[<-d];exact Oi w yU.toList 9
 go_in
 go_wp2_with fail
 unfold yU at d;rw[d];clear d
 go_ret
 refine⟨rfl,fun n hn=>?_,j.o⟩;have:=E.o.cell n;rw[Array.getElem?_toList,yG hn] at this;exact this
theorem SJ (a:Int)(w:World)(h0:0<=a)(h1:a<64):Calls prog 122 #[.int .i64 a] w fun e w'=>∃ z0 zn za zl zc,e=.returned (.agg #[.int .i64 z0,.bool zn,.slice za zl zc])/\(∀ W,Below w'.heap.size w' W->Calls prog 121 #[.agg #[.int .i64 z0,.bool zn,.slice za zl zc]] W fun e w'=>e=.returned (.string (Oo (Lib.decDigits a.toNat)))/\Up W w')/\Up w w':=by
 refine (Q.Xk a w (by omega) (by omega)).mono ?_;rintro e w' ⟨z,rfl,d,hb⟩;obtain⟨z0,zn,za,zl,zc,rfl⟩:=d.shape';exact⟨z0,zn,za,zl,zc,rfl,fun W hW=>WC w.heap.size _ a W (Yc hb.size hW.size) (d.bl hW) h0 h1,hb⟩
theorem JQ (n:Nat)(so tx:List UInt8)(a b:Int)(pk:Option Addr)(nk ck:Nat)(w:World)(hn48:n<48)(h:n≠11/\n≠12/\n≠24/\n≠15/\n≠43/\n≠44/\n≠45) :
 Calls prog 96 #[.agg #[.int .i64 (n:Nat),.string (Oo so),.string (Oo tx),.int .i64 a,.int .i64 b,.slice pk nk ck]] w fun e w'=>e=.returned (.string (Oo (oJ.getD n [])))/\Up w w':=by
 obtain⟨j,d⟩:=Oa (w.alloc (.cells #[.int .i64 (n:Nat),.string (Oo so),.string (Oo tx),.int .i64 a,.int .i64 b,.slice pk nk ck] 57));have V:=Hd d;have J:Up w j:=by rw[<-d];exact Oz _ _
 have E:Bx j w.heap.size [.int .i64 (n:Nat),.string (Oo so),.string (Oo tx),.int .i64 a,.int .i64 b,.slice pk nk ck]:=by rw[<-d];exact Oi w _ _
 have G:=Hd J;have Y:=Hd E;have c0:=E.cell 0;simp only[Jm] at c0;obtain⟨e1,e2,e3,e4,e5,e6,e7⟩:=h;have b8:((n:Int)==11)=false:=by rw[Jb];omega
 have b9:((n:Int)==12)=false:=by rw[Jb];omega
 have c8:((n:Int)==24)=false:=by rw[Jb];omega
 have c6:((n:Int)==15)=false:=by rw[Jb];omega
 have d2:((n:Int)==43)=false:=by rw[Jb];omega
 have d3:((n:Int)==44)=false:=by rw[Jb];omega
 have d4:((n:Int)==45)=false:=by rw[Jb];omega
 have Z:Hid (∀ W,Up j W->W.cell? ⟨w.heap.size,0,none⟩=some (.int .i64 (n:Nat))):=fun W hW=>(Y.o.bl Y.o.lt hW).cell 0;have O:Hid (Up j j.drew):=(Je _ _).drew;have y1:(0:Int)<=(n:Int):=by omega
 have y2:(n:Int)<48:=by omega
 clear d J E e1 e2 e3 e4 e5 e6 e7
 go_in
 go_upto_region 1 with fail
 rw[V.o]
 go_wp2
 go_region_law
  ((go_simp;refine (WL j.drew).mono ?_;rintro e w1 ⟨rfl,M,K⟩;have d1:w1.cell? ⟨j.heap.size,n,none⟩=some (.string (Oo (oJ.getD n []))):=M n hn48;have I:=O.up K;have d0:=Z.o w1 I.o;clear M K;go_wp2_with fail))
 all_goals
  have U:=Hd (G.o.trans (I.o.mono G.o.size))
  go_wp2
  go_ret
  exact⟨rfl,U.o⟩
theorem JX (so tx:List UInt8)(a b:Int)(pk:Option Addr)(nk ck:Nat)(w:World)(q1:0<=a)(q2:a<64)(q3:0<=b)(q4:b<64) :
 Calls prog 96 #[.agg #[.int .i64 43,.string (Oo so),.string (Oo tx),.int .i64 a,.int .i64 b,.slice pk nk ck]] w fun e w'=>e=.returned (.string (Oo ([40,95,32,101,120,116,114,97,99,116,32]++Lib.decDigits a.toNat++[32]++Lib.decDigits b.toNat++[41])))/\Up w w':=by
 obtain⟨E,j⟩:=Oa (w.alloc (.cells #[.int .i64 43,.string (Oo so),.string (Oo tx),.int .i64 a,.int .i64 b,.slice pk nk ck] 57));have d3:=Hd j;have a7:Up w E:=by rw[<-j];exact Oz _ _
 have h:Bx E w.heap.size [.int .i64 43,.string (Oo so),.string (Oo tx),.int .i64 a,.int .i64 b,.slice pk nk ck]:=by rw[<-j];exact Oi w _ _
 have I:=Hd a7;have HX:=Hd h;have c0:=h.cell 0;have c3:=h.cell 3;have c4:=h.cell 4;simp only[Jm,Js] at c0 c3 c4;have Y:=Hd (fun W=>SJ a W q1 q2);have Z:=Hd (fun W=>SJ b W q3 q4);have la:=SA a.toNat (by omega);have lb:=SA b.toNat (by omega);obtain⟨G,b6⟩:∃ d,Lib.decDigits a.toNat=d:=⟨_,rfl⟩;obtain⟨db,b7⟩:∃ d,Lib.decDigits b.toNat=d:=⟨_,rfl⟩;rw[b6] at Y la ⊢;rw[b7] at Z lb ⊢;have za:=H5 G;have zb:=H5 db;have V:Hid (∀ W,Up E W->W.cell? ⟨w.heap.size,3,none⟩=some (.int .i64 a)/\W.cell? ⟨w.heap.size,4,none⟩=some (.int .i64 b)):=fun W hW=>⟨(HX.o.bl HX.o.lt hW).cell 3,(HX.o.bl HX.o.lt hW).cell 4⟩;have U:Hid (Up E E.drew):=(Je _ _).drew;have v1:¬ 9223372036854775807<11+G.length:=by omega
 have v2:¬ 9223372036854775807<11+G.length+1:=by omega
 have v3:¬ 9223372036854775807<11+G.length+1+db.length:=by omega
 have v4:¬ 9223372036854775807<11+G.length+1+db.length+1:=by omega
 clear b6 b7 j a7 h q1 q2 q3 q4
 go_in
 go_upto_region 1 with fail
 rw[d3.o]
 go_wp2
 go_region_held3 (fun W=>W.cell? ⟨w.heap.size,3,none⟩=some (.int .i64 a)/\W.cell? ⟨w.heap.size,4,none⟩=some (.int .i64 b))
  (first|exact V.o _ O.o|exact V.o _ M.o|exact V.o _ K.o|exact V.o _ J.o|exact V.o _ U.o|assumption)
  (first
    | (go_at_call 121
       refine (d2.o w3 (Je _ _)).mono ?_;rintro e w4 ⟨rfl,b5⟩;have O:=M.up b5;clear b5)
    | (go_at_call 122
       refine (Z.o w2).mono ?_;rintro e w3 ⟨x0,xn,xa,xl,xc,rfl,b9,b4⟩;have d2:=Hd b9;have M:=K.up b4;clear b9 b4)
    | (go_at_call 121
       refine (d1.o w1 (Je _ _)).mono ?_;rintro e w2 ⟨rfl,b3⟩;have K:=J.up b3;clear b3)
    | (go_at_call 122
       refine (Y.o E.drew).mono ?_;rintro e w1 ⟨y0,yn,ya,yl,yc,rfl,b8,a8⟩;have d1:=Hd b8;have J:=U.up a8;clear b8 a8))
 all_goals
  have d0:=Hd (I.o.trans (O.o.mono I.o.size))
  go_wp2
  go_ret
  exact⟨congrArg (fun x=>Ending.returned (Value.string x)) (show (⟨#[40,95,32,101,120,116,114,97,99,116,32]⟩++Oo G++⟨#[32]⟩++Oo db++⟨#[41]⟩:ByteArray)=_ by apply ByteArray.ext;simp[Oo]),d0.o⟩
theorem TF (t:Tm)(pk:Option Addr)(nk ck:Nat)(w:World)(h:HeadOk t)(hn:t.op=12->Gt t=true) :
 Calls prog 96 #[.agg #[.int .i64 t.op,.string (Oo t.sort),.string (Oo t.text),.int .i64 t.a,.int .i64 t.b,.slice pk nk ck]] w fun e w'=>e=.returned (.string (Oo (SM t)))/\Up w w':=by
 obtain⟨op,so,tx,a,b,Y⟩:=t;obtain⟨h1,h2,h3,h4,h5⟩:=h;simp only at h1 h2 h3 h4 h5 hn ⊢;obtain⟨W0,V⟩:=Oa (w.alloc (.cells #[.int .i64 op,.string (Oo so),.string (Oo tx),.int .i64 a,.int .i64 b,.slice pk nk ck] 57));have J:=Hd V;have c8:Up w W0:=by rw[<-V];exact Oz _ _
 have b8:Bx W0 w.heap.size [.int .i64 op,.string (Oo so),.string (Oo tx),.int .i64 a,.int .i64 b,.slice pk nk ck]:=by rw[<-V];exact Oi w _ _
 have j:=Hd c8;have HX:=Hd b8;have d3:=H5 tx;obtain⟨c0,c1,c2,c3,c4⟩:=b8.k5;clear V c8 b8
 by_cases a8:op=11
 ·subst a8;have E:Hid (SM ⟨11,so,tx,a,b,Y⟩=Kl 2 tx):=by
   unfold Hid SM;simp
  go_in
  go_upto_region 1 with fail
  rw[J.o]
  go_wp2_with fail
  refine (Nc (Oo tx) _ (by rw[d3];omega)).mono ?_;rintro e w1 ⟨rfl,rfl⟩;rw[Ou]
  go_wp2
  go_ret
  exact⟨by rw[E.o];rfl,j.o⟩
 have e4:(op==11)=false:=by rw[Jb];exact a8
 by_cases b3:op=12
 ·subst b3;have E:Hid (SM ⟨12,so,tx,a,b,Y⟩=TK so tx):=by
   unfold Hid SM;simp
  have d2:=Hd (fun W=>JI ⟨12,so,tx,a,b,Y⟩ W (hn rfl));clear hn
  go_in
  go_upto_region 1 with fail
  rw[J.o]
  go_wp2_with fail
  refine (d2.o _).mono ?_;rintro e w1 ⟨rfl,G⟩;have I:=Hd (j.o.trans (G.mono j.o.size));clear G
  go_wp2
  go_ret
  exact⟨by rw[E.o];rfl,I.o⟩
 have e5:(op==12)=false:=by rw[Jb];exact b3
 clear hn
 by_cases b4:op=24
 ·subst b4;have E:Hid (SM ⟨24,so,tx,a,b,Y⟩=35::98::tx):=by
   unfold Hid SM;simp
  go_in
  go_upto_region 1 with fail
  rw[J.o]
  go_wp2
  go_ret
  exact⟨by rw[E.o];exact congrArg (fun x=>Ending.returned (Value.string x)) (show (⟨#[35,98]⟩++Oo tx:ByteArray)=_ by apply ByteArray.ext;simp[Oo]),j.o⟩
 have e7:(op==24)=false:=by rw[Jb];exact b4
 by_cases c6:op=15
 ·subst c6;have E:Hid (SM ⟨15,so,tx,a,b,Y⟩=[45]):=by
   unfold Hid SM;simp[JF]
  go_in
  go_upto_region 1 with fail
  rw[J.o]
  go_wp2
  go_ret
  exact⟨by rw[E.o];rfl,j.o⟩
 have e6:(op==15)=false:=by rw[Jb];exact c6
 by_cases b5:op=43
 ·subst b5;obtain⟨q1,q2⟩:=h4 (.inl rfl);obtain⟨q3,q4⟩:=h5 rfl;have E:SM ⟨43,so,tx,a,b,Y⟩=[40,95,32,101,120,116,114,97,99,116,32]++Lib.decDigits a.toNat++[32]++Lib.decDigits b.toNat++[41]:=by
   unfold SM;simp
  rw[E];exact JX so tx a b pk nk ck w q1 q2 q3 q4
 have e8:(op==43)=false:=by rw[Jb];exact b5
 by_cases b6:op=44
 ·subst b6;obtain⟨q1,q2⟩:=h4 (.inr (.inl rfl));have la:=SA a.toNat (by omega);have E:Hid (SM ⟨44,so,tx,a,b,Y⟩=[40,95,32,122,101,114,111,95,101,120,116,101,110,100,32]++Lib.decDigits a.toNat++[41]):=by
   unfold Hid SM;simp
  have K:=Hd (fun W=>SJ a W q1 q2);obtain⟨da,O⟩:∃ d,Lib.decDigits a.toNat=d:=⟨_,rfl⟩;rw[O] at K la E;have za:=H5 da;clear O
  go_in
  go_upto_region 1 with fail
  rw[J.o]
  go_wp2_with fail
  refine (K.o _).mono ?_;rintro e w1 ⟨y0,yn,ya,yl,yc,rfl,U,G⟩;have a7:=Hd U;have I:=Hd (j.o.trans (G.mono j.o.size));clear U G
  go_wp2_with fail
  refine (a7.o w1 (Je _ _)).mono ?_;rintro e w2 ⟨rfl,M⟩;have Z:=Hd (I.o.trans (M.mono I.o.size));clear M
  go_wp2
  go_ret
  exact⟨by rw[E.o];exact congrArg (fun x=>Ending.returned (Value.string x)) (show (⟨#[40,95,32,122,101,114,111,95,101,120,116,101,110,100,32]⟩++Oo da++⟨#[41]⟩:ByteArray)=_ by apply ByteArray.ext;simp[Oo]),Z.o⟩
 have e9:(op==44)=false:=by rw[Jb];exact b6
 by_cases b7:op=45
 ·subst b7;obtain⟨q1,q2⟩:=h4 (.inr (.inr rfl));have la:=SA a.toNat (by omega);have E:Hid (SM ⟨45,so,tx,a,b,Y⟩=[40,95,32,115,105,103,110,95,101,120,116,101,110,100,32]++Lib.decDigits a.toNat++[41]):=by
   unfold Hid SM;simp
  have K:=Hd (fun W=>SJ a W q1 q2);obtain⟨da,O⟩:∃ d,Lib.decDigits a.toNat=d:=⟨_,rfl⟩;rw[O] at K la E;have za:=H5 da;clear O
  go_in
  go_upto_region 1 with fail
  rw[J.o]
  go_wp2_with fail
  refine (K.o _).mono ?_;rintro e w1 ⟨y0,yn,ya,yl,yc,rfl,U,G⟩;have a7:=Hd U;have I:=Hd (j.o.trans (G.mono j.o.size));clear U G
  go_wp2_with fail
  refine (a7.o w1 (Je _ _)).mono ?_;rintro e w2 ⟨rfl,M⟩;have Z:=Hd (I.o.trans (M.mono I.o.size));clear M
  go_wp2
  go_ret
  exact⟨by rw[E.o];exact congrArg (fun x=>Ending.returned (Value.string x)) (show (⟨#[40,95,32,115,105,103,110,95,101,120,116,101,110,100,32]⟩++Oo da++⟨#[41]⟩:ByteArray)=_ by apply ByteArray.ext;simp[Oo]),Z.o⟩
 have f5:(op==45)=false:=by rw[Jb];exact b7
 have E:Hid (SM ⟨op,so,tx,a,b,Y⟩=oJ.getD op.toNat []):=by
  unfold Hid SM;simp only[if_neg a8,if_neg b3,if_neg b4,if_neg b5,if_neg b6,if_neg b7];unfold oJ;rw[Ji,Ji,J9 (by omega)]
 obtain⟨n,rfl⟩:∃ n:Nat,op=(n:Int):=⟨op.toNat,by omega⟩;rw[Int.toNat_natCast] at E;rw[E.o];exact JQ n so tx a b pk nk ck w (by omega) (by omega)
end Go.Proofs.YtphhhciffpkojaaGreatDoor
