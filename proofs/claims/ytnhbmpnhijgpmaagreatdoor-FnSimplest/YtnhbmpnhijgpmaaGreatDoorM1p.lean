import Derived.Below
import Derived.Test.YtnhbmpnhijgpmaaGreatDoorRows
import Derived.WalkKit
import Derived.WalkSpells
import Derived.ProofKit
import Derived.OpenShut
import Derived.ShutString
import Derived.Lib.Strings
import Derived.Lib.IndexBytes
set_option maxRecDepth 100000
set_option maxHeartbeats 800000
namespace Go.Proofs.YtnhbmpnhijgpmaaGreatDoor
open Go.ChangeShapes Go.WideShapes Go.ChangeAt Go.RowKit
abbrev Up (w W:World):Prop:=Go.RowKit.Below w.heap.size w W
theorem _root_.Go.RowKit.Hid.o {p:Prop} (h:Go.RowKit.Hid p):p:=h
theorem Hd {p:Prop} (h:p):Go.RowKit.Hid p:=h
theorem exW {α:Sort _} (a:α):∃ b,a=b:=⟨a,rfl⟩
theorem leR {n:Nat}:n≤n:=Nat.le_refl n
def isNeg (s:ByteArray):Bool:=(s.extract 0 1).toList==[45]
def dgs (s:ByteArray):ByteArray:=if isNeg s then s.extract 1 s.size else s
def isDig (c:UInt8):Bool:=decide (48≤c.toNat∧c.toNat≤57)
def isIntB (s:ByteArray):Bool:=
 decide (0<(dgs s).size)&&decide ((dgs s).size≤2500)&&(dgs s).data.toList.all isDig&&(!decide ((dgs s).data.toList.head? = some 48)||s.toList==[48])
theorem dgs_size (s:ByteArray):(dgs s).size≤s.size:=by
 unfold dgs; split
 ·rw [ByteArray.size_extract]; omega
 exact leR
theorem ret_bool {a b:Bool} (h:a=b):Ending.returned (.bool a)=.returned (.bool b):=by rw [h]
theorem take_snoc (s:ByteArray) (k:Nat) (h:k<s.size):s.data.toList.take (k+1)=s.data.toList.take k++[s[k]]:=by
 rw [List.take_succ_eq_append_getElem (by simpa using h)]; rfl
theorem all_snoc (s:ByteArray) (k:Nat) (h:k<s.size) (hp:(s.data.toList.take k).all isDig=true) (h1:48≤s[k].toNat) (h2:s[k].toNat≤57) :
 (s.data.toList.take (k+1)).all isDig=true:=by
 rw [take_snoc s k h,List.all_append,hp]; simp [isDig,h1,h2]
theorem all_bad (s:ByteArray) (k:Nat) (h:k<s.size) (h1:¬ (48≤s[k].toNat∧s[k].toNat≤57)):s.data.toList.all isDig=false:=by
 rw [Bool.eq_false_iff]; intro i; rw [List.all_eq_true] at i; have:=i s[k] (by show s.data[k]∈_; exact Array.getElem_mem_toList _); simp [isDig] at this; omega
theorem isInt_empty (s d:ByteArray) (hd:dgs s=d) (h:d.size=0):isIntB s=false:=by subst hd; simp [isIntB,h]
theorem isInt_long (s d:ByteArray) (hd:dgs s=d) (h:2500<d.size):isIntB s=false:=by
 subst hd; unfold isIntB; rw [decide_eq_false (show ¬ (dgs s).size≤2500 by omega)]; simp
theorem head_eq (d:ByteArray) (h:0<d.size):d.data.toList.head? = some d[0]:=by
 obtain ⟨⟨l⟩⟩:=d
 cases l with
 | nil=>simp [ByteArray.size] at h
 | cons a l=>rfl
theorem isInt_zero (s d:ByteArray) (hd:dgs s=d) (h:0<d.size) (h2:d[0].toNat=48):isIntB s=(s.toList==[48]):=by
 subst hd; have e:(dgs s)[0]=48:=UInt8.toNat_inj.1 (by rw [h2]; rfl)
 cases i:s.toList==[48] with
 | false=>
   unfold isIntB; rw [i,head_eq _ h,e]; simp
 | true=>
   have hl:s.toList=[48]:=by simpa using i
   rw [ByteArray.toList_eq] at hl; have j:s=⟨#[48]⟩:=by
    obtain ⟨⟨l⟩⟩:=s; simp at hl; rw [hl]
   subst j; simp [isIntB,dgs,isNeg,ByteArray.toList_eq,isDig,ByteArray.size]
theorem isInt_rest (s d:ByteArray) (hd:dgs s=d) (h:0<d.size) (h1:d.size≤2500) (h2:¬ d[0].toNat=48):isIntB s=d.data.toList.all isDig:=by
 subst hd; have e:¬ (dgs s)[0]=48:=fun e=>h2 (by rw [e]; rfl); unfold isIntB; rw [head_eq _ h]; simp [h,h1,e]
theorem trim_any (s:ByteArray) (w:World) (hs:s.size≤maxLen) :
 Calls Tryz.prog 107 #[.string s,.string ⟨#[45]⟩] w fun e w'=>e=.returned (.string (dgs s))∧w'=w:=by
 unfold maxLen at hs; have m:((s.extract 0 1).toList==[45])=true→dgs s=s.extract 1 s.size:=fun h=>by unfold dgs isNeg; rw [if_pos h]
 have i:((s.extract 0 1).toList==[45])=false→dgs s=s:=fun h=>by unfold dgs isNeg; rw [if_neg (by rw [h]; decide)]
 have j:¬ 1≤(s.size:Int)→dgs s=s:=fun h=>i (by
  rw [Lib.extract_toList]; have:s.data.toList=[]:=by
   have:=Lib.size_eq s; exact List.eq_nil_of_length_eq_zero (by omega)
  rw [this]; rfl)
 have A:=Hd m; have u:=Hd i; have t:=Hd j; clear m i j
 go_enter Tryz.func107,Tryz.ntmps107
 go_wp2
 all_goals go_ret
 ·rw [A.o ‹_›]; exact ⟨rfl,rfl⟩
 ·rw [u.o ‹_›]; exact ⟨rfl,rfl⟩
 rw [t.o (by omega)]; exact ⟨rfl,rfl⟩
theorem toList_ne (d:ByteArray) (h:0<d.size):d.toList.isEmpty=false:=by
 rw [ByteArray.toList_eq]; have:=Lib.size_eq d
 cases hl:d.data.toList with
 | nil=>exfalso; rw [hl] at this; simp only [List.length_nil] at this; omega
 | cons _ _=>rfl
theorem toList_e (d:ByteArray) (h:d.size=0):d.toList.isEmpty=true:=by
 rw [ByteArray.toList_eq,List.eq_nil_of_length_eq_zero (l:=d.data.toList) (by rw [← Lib.size_eq]; exact h)]; rfl
theorem isInt_impl (s:ByteArray) (w:World) (hs:s.size≤maxLen) :
 Calls Tryz.prog 94 #[.string s] w fun e w'=>e=.returned (.bool (isIntB s))∧w'=w:=by
 have u:=dgs_size s; unfold maxLen at hs; obtain ⟨d,t⟩:=exW (dgs s); rw [t] at u; have j:=Hd t; clear t
 by_cases c0:d.size=0
 ·have e:=toList_e d c0; have F:Hid (isIntB s=false):=isInt_empty s d j.o c0; clear c0
  go_enter Tryz.func94,Tryz.ntmps94
  go_wp2_with (go_at_call 107; refine (trim_any _ _ hs).mono ?_; rintro e w' ⟨rfl,rfl⟩; rw [j.o])
  go_ret
  exact ⟨ret_bool F.o.symm,rfl⟩
 have e:=toList_ne d (by omega)
 by_cases c1:2500<d.size
 ·have F:Hid (isIntB s=false):=isInt_long s d j.o c1; clear c0; have c2:decide (2500<(d.size:Int))=true:=by simp; omega
  go_enter Tryz.func94,Tryz.ntmps94
  go_wp2_with (go_at_call 107; refine (trim_any _ _ hs).mono ?_; rintro e w' ⟨rfl,rfl⟩; rw [j.o])
  go_ret
  exact ⟨ret_bool F.o.symm,rfl⟩
 have c2:decide (2500<(d.size:Int))=false:=by simp; omega
 have c3:0<d.size:=by omega
 by_cases c4:d[0].toNat=48
 ·have F:Hid (isIntB s=(s.toList==[48])):=isInt_zero s d j.o c3 c4; clear c0; have c5:((d[0].toNat:Int)==48)=true:=by simp; omega
  go_enter Tryz.func94,Tryz.ntmps94
  go_wp2_with (go_at_call 107; refine (trim_any _ _ hs).mono ?_; rintro e w' ⟨rfl,rfl⟩; rw [j.o])
  go_ret
  exact ⟨ret_bool F.o.symm,rfl⟩
 have F:Hid (isIntB s=d.data.toList.all isDig):=isInt_rest s d j.o c3 (by omega) c4; have c5:((d[0].toNat:Int)==48)=false:=by simp; omega
 clear c0 c4
 go_enter Tryz.func94,Tryz.ntmps94
 go_wp2_with (go_at_call 107; refine (trim_any _ _ hs).mono ?_; rintro e w' ⟨rfl,rfl⟩; rw [j.o])
 go_loop [21] (fun i=>∃ k:Nat,k≤d.size∧i=.int .i64 k∧(d.data.toList.take k).all isDig=true) (fun i=>d.size - (intOf i).toNat)
 case atStart=>exact ⟨0,Nat.zero_le _,rfl,rfl⟩
 case round=>
  obtain ⟨k,E,rfl,D⟩:=hrel; have A:=Hd D; clear D
  by_cases m:k<d.size
  ·go_wp2
   ·go_ret
    exact ⟨ret_bool (by rw [F.o,all_bad d k m (by omega)]),rfl⟩
   ·go_round
    case rel=>exact ⟨k+1,by omega,by go_num,all_snoc d k m A.o (by omega) (by omega)⟩
    case measure=>simp [intOf]; omega
   ·go_ret
    exact ⟨ret_bool (by rw [F.o,all_bad d k m (by omega)]),rfl⟩
  ·go_wp2
   go_ret
   exact ⟨ret_bool (by rw [F.o]; rw [← A.o,List.take_of_length_le (by rw [← Lib.size_eq]; omega)]),rfl⟩
theorem isNeg_yes (s:ByteArray) (h:isNeg s=true):∃ h0:0<s.size,s[0].toNat=45:=by
 unfold isNeg at h; rw [Lib.extract_toList] at h; obtain ⟨⟨l⟩⟩:=s
 cases l with
 | nil=>simp at h
 | cons a l=>
   simp at h; refine ⟨by simp [ByteArray.size],?_⟩
   show a.toNat=45
   rw [h]; rfl
theorem isNeg_no (s:ByteArray) (h:isNeg s=false) (h0:0<s.size):¬ s[0].toNat=45:=by
 unfold isNeg at h; rw [Lib.extract_toList] at h; obtain ⟨⟨l⟩⟩:=s
 cases l with
 | nil=>simp [ByteArray.size] at h0
 | cons a l=>
   simp at h; intro e; exact h (UInt8.toNat_inj.1 (by rw [show a.toNat=45 from e]; rfl))
theorem isInt_loop (s d:ByteArray) (hd:dgs s=d) (h:0<d.size) (h1:d.size≤2500) (h2:isNeg s=true→¬ d.toList=[48]) (h3:d.size=1∨¬ d[0].toNat=48):isIntB s=d.data.toList.all isDig:=by
 by_cases c:d[0].toNat=48
 ·rw [isInt_zero s d hd h c]; have h4:d.size=1:=h3.resolve_right (fun x=>x c); have e:d[0]=48:=UInt8.toNat_inj.1 (by rw [c]; rfl); have j:d.data.toList=[48]:=by
   have i:=head_eq d h; rw [Lib.size_eq] at h4; obtain ⟨a,m⟩:=List.length_eq_one_iff.1 h4; rw [m] at i ⊢; simp at i; rw [i,e]
  cases hn:isNeg s with
  | true=>exact absurd (by rw [ByteArray.toList_eq]; exact j) (h2 hn)
  | false=>
    have:s=d:=by rw [← hd]; unfold dgs; rw [hn]; rfl
    rw [this,ByteArray.toList_eq,j]; rfl
 exact isInt_rest s d hd h h1 c
theorem isInt_two (s d:ByteArray) (hd:dgs s=d) (h:1<d.size) (c:d[0].toNat=48):isIntB s=false:=by
 rw [isInt_zero s d hd (by omega) c,beq_eq_false_iff_ne]; intro e; have:=dgs_size s; have i:s.size=1:=by rw [Lib.size_eq,← ByteArray.toList_eq,e]; rfl
 rw [hd] at this; omega
theorem isInt_neg0 (s d:ByteArray) (hd:dgs s=d) (hn:isNeg s=true) (h:(d.toList==[48])=true):isIntB s=false:=by
 have e:d.toList=[48]:=by simpa using h
 rw [ByteArray.toList_eq] at e; have A:d.size=1:=by rw [Lib.size_eq,e]; rfl
 have j:=head_eq d (by omega); rw [e] at j; simp at j; rw [isInt_zero s d hd (by omega) (by rw [← j]; rfl),beq_eq_false_iff_ne]; intro t; obtain ⟨u,m⟩:=isNeg_yes s hn; have i:=head_eq s u; rw [← ByteArray.toList_eq,t] at i; simp at i; rw [← i] at m; exact absurd m (by decide)
theorem dgs_neg (s:ByteArray) (h:isNeg s=true):dgs s=s.extract 1 s.size:=by unfold dgs; rw [if_pos h]
theorem dgs_pos (s:ByteArray) (h:isNeg s=false):dgs s=s:=by unfold dgs; rw [h]; rfl
theorem ext_size (s:ByteArray):(s.extract 1 s.size).size=s.size - 1:=by rw [ByteArray.size_extract]; omega
theorem spec_pos (s:ByteArray) (w:World) (hs:s.size≤maxLen) (hn:isNeg s=false) :
 Calls Tryz.prog 36 #[.string s] w fun e w'=>e=.returned (.bool (isIntB s))∧w'=w:=by
 unfold maxLen at hs; have m:Hid (dgs s=s):=dgs_pos s hn; have u:=Hd hn; clear hn
 by_cases c0:s.size=0
 ·have F:Hid (isIntB s=false):=isInt_empty s _ m.o c0; have E:s=ByteArray.empty:=by
   obtain ⟨⟨l⟩⟩:=s; simp [ByteArray.size] at c0; rw [c0]; rfl
  clear c0; subst E
  go_enter Tryz.func36,Tryz.ntmps36
  go_wp2
  go_ret
  exact ⟨ret_bool F.o.symm,rfl⟩
 have c2:0<s.size:=by omega
 have m0:((s[0].toNat:Int)==45)=false:=by
  have:=isNeg_no s u.o c2; simp; omega
 have I:((s.size:Int)==0)=false:=by rw [beq_eq_false_iff_ne]; omega
 by_cases c1:2500<s.size
 ·have F:Hid (isIntB s=false):=isInt_long s _ m.o c1; have G:decide (2500<(s.size:Int))=true:=by simp; omega
  clear c0
  go_enter Tryz.func36,Tryz.ntmps36
  go_wp2
  all_goals
   go_ret
   exact ⟨ret_bool F.o.symm,rfl⟩
 have G:decide (2500<(s.size:Int))=false:=by simp; omega
 by_cases c3:s.size=1∨¬ s[0].toNat=48
 ·have F:Hid (isIntB s=s.data.toList.all isDig):=isInt_loop s s m.o c2 (by omega) (fun h=>by rw [u.o] at h; cases h) c3; have t:decide (1<(s.size:Int))=false∨(decide (1<(s.size:Int))=true∧((s[0].toNat:Int)==48)=false):=by
   by_cases c4:s.size=1
   ·exact .inl (by simp; omega)
   exact .inr ⟨by simp; omega,by have:=c3.resolve_left c4; simp; omega⟩
  have J:1≤s.size:=by omega
  clear c3 c0
  rcases t with t|⟨t,z4⟩
  all_goals
   go_enter Tryz.func36,Tryz.ntmps36
   go_wp2
   go_loop [3] (fun i=>∃ k:Nat,k≤s.size∧i=.int .i64 k∧(s.data.toList.take k).all isDig=true) (fun i=>s.size - (intOf i).toNat)
   case atStart=>exact ⟨0,Nat.zero_le _,rfl,rfl⟩
   case round=>
    obtain ⟨k,H,rfl,D⟩:=hrel; have A:=Hd D; clear D
    by_cases j:k<s.size
    ·go_wp2
     ·go_ret
      exact ⟨ret_bool (by rw [F.o,all_bad s k j (by omega)]),rfl⟩
     ·go_round
      case rel=>exact ⟨k+1,by omega,by go_num,all_snoc s k j A.o (by omega) (by omega)⟩
      case measure=>simp [intOf]; omega
     ·go_ret
      exact ⟨ret_bool (by rw [F.o,all_bad s k j (by omega)]),rfl⟩
    ·go_wp2
     go_ret
     exact ⟨ret_bool (by rw [F.o]; rw [← A.o,List.take_of_length_le (by rw [← Lib.size_eq]; omega)]),rfl⟩
 have F:Hid (isIntB s=false):=isInt_two s s m.o (by omega) (by omega); have t:decide (1<(s.size:Int))=true:=by simp; omega
 have z4:((s[0].toNat:Int)==48)=true:=by simp; omega
 clear c3
 go_enter Tryz.func36,Tryz.ntmps36
 go_wp2
 all_goals
  go_ret
  exact ⟨ret_bool F.o.symm,rfl⟩
theorem spec_neg (s:ByteArray) (w:World) (hs:s.size≤maxLen) (hn:isNeg s=true) :
 Calls Tryz.prog 36 #[.string s] w fun e w'=>e=.returned (.bool (isIntB s))∧w'=w:=by
 unfold maxLen at hs; have t:Hid (dgs s=s.extract 1 s.size):=dgs_neg s hn; have I:=Hd hn; have m:Hid ((s.extract 1 s.size).size=s.size - 1):=ext_size s; obtain ⟨M,J⟩:=isNeg_yes s hn; have m0:((s[0].toNat:Int)==45)=true:=by simp; omega
 clear hn J
 by_cases u:((s.extract 1 s.size).toList==[48])=true
 ·have F:Hid (isIntB s=false):=isInt_neg0 s _ t.o I.o u
  go_enter Tryz.func36,Tryz.ntmps36
  go_wp2
  go_ret
  exact ⟨ret_bool F.o.symm,rfl⟩
 have Q:((s.extract 1 s.size).toList==[48])=false:=by simpa using u
 have H:Hid (¬ (s.extract 1 s.size).toList=[48]):=by intro e; rw [e] at u; exact u rfl
 clear u
 by_cases c0:s.size - 1=0
 ·have F:Hid (isIntB s=false):=isInt_empty s _ t.o (by rw [m.o]; exact c0); have K:(((s.size - 1:Nat):Int)==0)=true:=by rw [beq_iff_eq]; omega
  go_enter Tryz.func36,Tryz.ntmps36
  go_wp2
  go_ret
  exact ⟨ret_bool F.o.symm,rfl⟩
 have c2:0<s.size - 1:=by omega
 have K:(((s.size - 1:Nat):Int)==0)=false:=by rw [beq_eq_false_iff_ne]; omega
 by_cases c1:2500<s.size - 1
 ·have F:Hid (isIntB s=false):=isInt_long s _ t.o (by rw [m.o]; exact c1); have L:decide (2500<((s.size - 1:Nat):Int))=true:=by rw [decide_eq_true_iff]; omega
  clear c0
  go_enter Tryz.func36,Tryz.ntmps36
  go_wp2
  go_ret
  exact ⟨ret_bool F.o.symm,rfl⟩
 have L:decide (2500<((s.size - 1:Nat):Int))=false:=by rw [decide_eq_false_iff_not]; omega
 have c5:0<(s.extract 1 s.size).size:=by rw [m.o]; exact c2
 by_cases c3:(s.extract 1 s.size).size=1∨¬ (s.extract 1 s.size)[0].toNat=48
 ·have F:Hid (isIntB s=(s.extract 1 s.size).data.toList.all isDig):=isInt_loop s _ t.o c5 (by rw [m.o]; omega) (fun h=>H.o) c3; have A:decide (1<((s.size - 1:Nat):Int))=false∨(decide (1<((s.size - 1:Nat):Int))=true∧(((s.extract 1 s.size)[0].toNat:Int)==48)=false):=by
   by_cases c4:(s.extract 1 s.size).size=1
   ·exact .inl (by rw [m.o] at c4; rw [decide_eq_false_iff_not]; omega)
   exact .inr ⟨by rw [m.o] at c4; rw [decide_eq_true_iff]; omega,by have:=c3.resolve_left c4; rw [beq_eq_false_iff_ne]; omega⟩
  clear c3 c0
  rcases A with A|⟨A,z4⟩
  all_goals
   go_enter Tryz.func36,Tryz.ntmps36
   go_wp2
   go_loop [3] (fun i=>∃ k:Nat,k≤s.size - 1∧i=.int .i64 k∧((s.extract 1 s.size).data.toList.take k).all isDig=true) (fun i=>s.size - 1 - (intOf i).toNat)
   case atStart=>exact ⟨0,Nat.zero_le _,rfl,rfl⟩
   case round=>
    obtain ⟨k,O,rfl,G⟩:=hrel; have E:=Hd G; clear G
    by_cases D:k<s.size - 1
    ·have j:k<(s.extract 1 s.size).size:=by rw [m.o]; exact D
     go_wp2
     ·go_ret
      exact ⟨ret_bool (by rw [F.o,all_bad _ k j (by omega)]),rfl⟩
     ·go_round
      case rel=>exact ⟨k+1,by omega,by go_num,all_snoc _ k j E.o (by omega) (by omega)⟩
      case measure=>simp [intOf]; omega
     ·go_ret
      exact ⟨ret_bool (by rw [F.o,all_bad _ k j (by omega)]),rfl⟩
    ·go_wp2
     go_ret
     exact ⟨ret_bool (by rw [F.o]; rw [← E.o,List.take_of_length_le (by rw [← Lib.size_eq,m.o]; omega)]),rfl⟩
 have F:Hid (isIntB s=false):=isInt_two s _ t.o (by omega) (by omega); have A:decide (1<((s.size - 1:Nat):Int))=true:=by rw [m.o] at c3 c5; rw [decide_eq_true_iff]; omega
 have z4:(((s.extract 1 s.size)[0].toNat:Int)==48)=true:=by rw [beq_iff_eq]; omega
 clear c3
 go_enter Tryz.func36,Tryz.ntmps36
 go_wp2
 all_goals
  go_ret
  exact ⟨ret_bool F.o.symm,rfl⟩
theorem isInt_spec (s:ByteArray) (w:World) (hs:s.size≤maxLen) :
 Calls Tryz.prog 36 #[.string s] w fun e w'=>e=.returned (.bool (isIntB s))∧w'=w:=by
 cases hn:isNeg s
 ·exact spec_pos s w hs hn
 exact spec_neg s w hs hn
/-! Plain lemmas on limbs: lists of numbers below 10^9,the lowest first. -/
def val:List Nat→Nat
 | []=>0
 | x::l=>x+1000000000*val l
def okL (l:List Nat):Prop:=∀ x∈l,x<1000000000
def trimL (l:List Nat):List Nat:=l.take (l.length - (l.reverse.takeWhile (·==0)).length)
def isTrim (l:List Nat):Prop:=∀ h:l≠[],l.getLast h≠0
def num (d:List UInt8):Nat:=d.foldl (fun a c=>a*10+(c.toNat - 48)) 0
def chunk (d:List UInt8) (i:Nat):Nat:=num ((d.take (d.length - 9*i)).drop (d.length - 9*i - 9))
def cnt (n:Nat):Nat:=(n+8) / 9
def chunks (d:List UInt8):List Nat:=(List.range (cnt d.length)).map (chunk d)
def dig (c:UInt8):Prop:=48≤c.toNat∧c.toNat≤57
theorem num_snoc (d:List UInt8) (c:UInt8):num (d++[c])=num d*10+(c.toNat - 48):=by simp [num]
theorem num_lt (d:List UInt8) (h:∀ c∈d,dig c):num d<10 ^ d.length:=by
 have i:∀ (l:List UInt8) (a k:Nat),(∀ c∈l,dig c)→a<10 ^ k→l.foldl (fun a c=>a*10+(c.toNat - 48)) a<10 ^ (k+l.length):=by
  intro l
  induction l with
  | nil=>intro a k _ h; simpa using h
  | cons c l ih=>
    intro a k j s; have m:=j c (by simp); have:=ih (a*10+(c.toNat - 48)) (k+1) (fun x hx=>j x (by simp [hx])) (by unfold dig at m; rw [Nat.pow_succ]; omega); simp only [List.foldl_cons,List.length_cons]; rw [show k+(l.length+1)=k+1+l.length by omega]; exact this
 have:=i d 0 0 h (by simp)
 simpa [num] using this
theorem chunk_lt (d:List UInt8) (i:Nat) (h:∀ c∈d,dig c):chunk d i<1000000000:=by
 unfold chunk; have m:=num_lt ((d.take (d.length - 9*i)).drop (d.length - 9*i - 9)) (fun c hc=>h c (List.mem_of_mem_take (List.mem_of_mem_drop hc))); have j:((d.take (d.length - 9*i)).drop (d.length - 9*i - 9)).length≤9:=by simp; omega
 have h3:10 ^ ((d.take (d.length - 9*i)).drop (d.length - 9*i - 9)).length≤10 ^ 9:=Nat.pow_le_pow_right (by omega) j; have:(10:Nat) ^ 9=1000000000:=by decide
 omega
theorem chunks_ok (d:List UInt8) (h:∀ c∈d,dig c):okL (chunks d):=by
 intro x j; simp only [chunks,List.mem_map] at j; obtain ⟨i,_,rfl⟩:=j; exact chunk_lt d i h
theorem trimL_snoc_zero (l:List Nat):trimL (l++[0])=trimL l:=by
 unfold trimL; simp only [List.reverse_append,List.reverse_cons,List.reverse_nil,List.nil_append,List.cons_append,List.length_append,List.length_cons,List.length_nil]; rw [List.takeWhile_cons]; simp only [beq_self_eq_true,if_true,List.length_cons]; rw [show l.length+(0+1) - ((List.takeWhile (fun x=>x==0) l.reverse).length+1)=l.length - (List.takeWhile (fun x=>x==0) l.reverse).length by omega]; rw [List.take_append_of_le_length (by omega)]
theorem trimL_snoc_pos (l:List Nat) (x:Nat) (h:x≠0):trimL (l++[x])=l++[x]:=by
 unfold trimL; simp only [List.reverse_append,List.reverse_cons,List.reverse_nil,List.nil_append,List.cons_append]; rw [List.takeWhile_cons,if_neg (by simpa using h)]; exact List.take_of_length_le (by simp)
theorem trimL_nil:trimL []=[]:=rfl
theorem trimL_take_zero (l:List Nat) (k:Nat) (h:k<l.length) (h0:l.getD k 0=0):trimL (l.take (k+1))=trimL (l.take k):=by
 rw [List.take_succ_eq_append_getElem h]; have:l[k]=0:=by simpa [List.getD_eq_getElem?_getD,h] using h0
 rw [this,trimL_snoc_zero]
theorem trimL_take_pos (l:List Nat) (k:Nat) (h:k<l.length) (h0:l.getD k 0≠0):trimL (l.take (k+1))=l.take (k+1):=by
 rw [List.take_succ_eq_append_getElem h]; have:l[k]≠0:=by simpa [List.getD_eq_getElem?_getD,h] using h0
 exact trimL_snoc_pos _ _ this
theorem trimL_take (l:List Nat):trimL l=l.take (trimL l).length:=by
 unfold trimL; rw [List.length_take,List.take_eq_take_iff]; omega
theorem trimL_len (l:List Nat):(trimL l).length≤l.length:=by unfold trimL; rw [List.length_take]; omega
theorem trimL_ok (l:List Nat) (h:okL l):okL (trimL l):=fun x hx=>h x (List.mem_of_mem_take hx)
theorem trimL_trim (l:List Nat):isTrim (trimL l):=by
 induction hn:l.length generalizing l with
 | zero=>
   have:l=[]:=List.eq_nil_of_length_eq_zero hn; subst this; intro h; exact absurd trimL_nil h
 | succ n ih=>
   have i:l≠[]:=by intro h; rw [h] at hn; simp at hn
   rw [← List.dropLast_concat_getLast i]
   by_cases j:l.getLast i=0
   ·rw [j,trimL_snoc_zero]; exact ih _ (by simp [hn])
   ·rw [trimL_snoc_pos _ _ j]; intro h
    simpa using j
theorem trimL_of_trim (l:List Nat) (h:isTrim l):trimL l=l:=by
 by_cases i:l=[]
 ·rw [i]; rfl
 rw [← List.dropLast_concat_getLast i]; exact trimL_snoc_pos _ _ (h i)
def IsL (B:Nat) (w:World) (v:Value) (l:List Nat):Prop:=
 ∃ a cap,v=.slice a l.length cap∧l.length≤cap∧cap≤maxLen∧okL l ∧
  (l=[]∨∃ b off,a=some ⟨b,off,none⟩∧B≤b∧b<w.heap.size∧∀ i,i<l.length→w.cell? ⟨b,off+i,none⟩=some (.int .u32 (l.getD i 0:Nat)))
theorem ret_int {k:IntKind} {a b:Int} (h:a=b):Ending.returned (.int k a)=.returned (.int k b):=by rw [h]
theorem val_int {k:IntKind} {a b:Int} (h:a=b):Value.int k a=Value.int k b:=by rw [h]
theorem num_take_succ (s:ByteArray) (k:Nat) (h:k<s.size):num (s.data.toList.take (k+1))=num (s.data.toList.take k)*10+(s[k].toNat - 48):=by
 rw [take_snoc s k h,num_snoc]
theorem dig_at (s:ByteArray) (hd:∀ c∈s.data.toList,dig c) (k:Nat) (h:k<s.size):48≤s[k].toNat∧s[k].toNat≤57:=
 hd s[k] (by show s.data[k]∈_; exact Array.getElem_mem_toList _)
theorem num_take_lt (s:ByteArray) (hd:∀ c∈s.data.toList,dig c) (h9:s.size≤9) (k:Nat) (hk:k<s.size):num (s.data.toList.take k)<100000000:=by
 have j:=num_lt (s.data.toList.take k) (fun c hc=>hd c (List.mem_of_mem_take hc)); have i:(s.data.toList.take k).length≤8:=by rw [List.length_take]; omega
 have h3:10 ^ (s.data.toList.take k).length≤10 ^ 8:=Nat.pow_le_pow_right (by omega) i; have:(10:Nat) ^ 8=100000000:=by decide
 omega
theorem readLimb_any (s:ByteArray) (w:World) (h9:s.size≤9) (hd:∀ c∈s.data.toList,dig c) :
 Calls Tryz.prog 110 #[.string s] w fun e w'=>e=.returned (.int .u32 (num s.data.toList:Nat))∧w'=w:=by
 have m:=Hd hd; clear hd
 go_enter Tryz.func110,Tryz.ntmps110
 go_wp2
 go_loop [3,7] (fun t i=>∃ k:Nat,k≤s.size∧i=.int .i64 k∧t=.int .u32 (num (s.data.toList.take k):Nat)) (fun _ i=>s.size - (intOf i).toNat)
 case atStart=>exact ⟨0,Nat.zero_le _,rfl,rfl⟩
 case round=>
  obtain ⟨k,E,rfl,rfl⟩:=hrel
  by_cases j:k<s.size
  ·have A:=num_take_lt s m.o h9 k j; have D:=dig_at s m.o k j; have u:Hid (num (s.data.toList.take (k+1))=num (s.data.toList.take k)*10+(s[k].toNat - 48)):=num_take_succ s k j
   go_wp2
   go_round
   case rel=>
    refine ⟨k+1,by omega,by go_num,?_⟩; rw [u.o]; exact val_int (by omega)
   case measure=>simp [intOf]; omega
  ·go_wp2
   go_ret
   exact ⟨ret_int (by rw [List.take_of_length_le (by rw [← Lib.size_eq]; omega)]),rfl⟩
theorem trimLimbs_row (b off cap:Nat) (l:List Nat) (w:World) (hl:l.length≤cap) (hcap:cap≤maxLen)
 (hc:∀ i,i<l.length→w.cell? ⟨b,off+i,none⟩=some (.int .u32 (l.getD i 0:Nat))) :
 Calls Tryz.prog 113 #[.slice (some ⟨b,off,none⟩) l.length cap] w fun e w'=>
  e=.returned (.slice (some ⟨b,off,none⟩) (trimL l).length cap)∧w'=w:=by
 unfold maxLen at hcap; have G:=Hd hc; clear hc
 go_enter Tryz.func113,Tryz.ntmps113
 go_wp2
 go_loop [0] (fun s=>∃ k:Nat,k≤l.length∧s=.slice (some ⟨b,off,none⟩) k cap∧trimL (l.take k)=trimL l) (fun s=>match s with|.slice _ k _=>k|_=>0)
 case atStart=>exact ⟨l.length,leR,rfl,by rw [List.take_length]⟩
 case round=>
  obtain ⟨k,I,rfl,F⟩:=hrel; have A:=Hd F; clear F
  cases k with
  | zero=>
    go_wp2
    go_ret
    have:trimL l=[]:=by rw [← A.o]; rfl
    exact ⟨by rw [this]; rfl,rfl⟩
  | succ m=>
    obtain ⟨x,D⟩:=exW (l.getD m 0); have j:=G.o m (by omega); rw [D] at j; have E:=Hd D; clear D
    by_cases t:x=0
    ·have H:((x:Int)==0)=true:=by rw [beq_iff_eq]; omega
     have u:Hid (trimL (l.take m)=trimL l):=by rw [← trimL_take_zero l m (by omega) (by rw [E.o,t])]; exact A.o
     clear t
     go_wp2
     go_round
     case rel=>exact ⟨m,by omega,rfl,u.o⟩
     case measure=>simp
    ·have H:((x:Int)==0)=false:=by rw [beq_eq_false_iff_ne]; omega
     have u:Hid ((trimL l).length=m+1):=by
      rw [← A.o,trimL_take_pos l m (by omega) (by rw [E.o]; exact t),List.length_take]; exact Nat.min_eq_left (by omega)
     clear t
     go_wp2
     go_ret
     exact ⟨by rw [u.o]; rfl,rfl⟩
theorem trimLimbs_none (a:Option Addr) (cap:Nat) (w:World) :
 Calls Tryz.prog 113 #[.slice a 0 cap] w fun e w'=>e=.returned (.slice a 0 cap)∧w'=w:=by
 go_enter Tryz.func113,Tryz.ntmps113
 go_wp2
 refine wp_loop_rounds 1 ?_; rw [rounds_succ]
 go_wp2
 go_ret
 exact ⟨rfl,rfl⟩
theorem getD_trimL (l:List Nat) (i:Nat) (h:i<(trimL l).length):(trimL l).getD i 0=l.getD i 0:=by
 rw [trimL_take l] at h ⊢; rw [List.length_take] at h; simp only [List.getD_eq_getElem?_getD,List.getElem?_take]; rw [if_pos (by omega)]
def CutL (v v':Value) (l:List Nat):Prop:=∀ B W,IsL B W v l→IsL B W v' (trimL l)
theorem IsL.cut {b off cap:Nat} {l:List Nat}:CutL (.slice (some ⟨b,off,none⟩) l.length cap) (.slice (some ⟨b,off,none⟩) (trimL l).length cap) l:=by
 rintro B W ⟨a,u,s,hl,j,t,H⟩; have G:=trimL_len l; simp only [Value.slice.injEq,true_and] at s; obtain ⟨rfl,rfl⟩:=s; refine ⟨_,_,rfl,by omega,j,trimL_ok l t,?_⟩
 rcases H with h|⟨A,m,s,D,E,F⟩
 ·exact .inl (by rw [h]; rfl)
 refine .inr ⟨A,m,s,D,E,fun i hi=>?_⟩; rw [getD_trimL l i hi]; exact F i (by omega)
theorem trimLimbs_any (B:Nat) (v:Value) (l:List Nat) (w:World) (h:IsL B w v l) :
 Calls Tryz.prog 113 #[v] w fun e w'=>∃ v',e=.returned v'∧CutL v v' l∧w'=w:=by
 obtain ⟨a,cap,rfl,hl,i,s,t⟩:=h
 rcases t with rfl|⟨b,j,rfl,_,u,m⟩
 ·refine (trimLimbs_none a cap w).mono ?_; rintro e w' ⟨rfl,rfl⟩; exact ⟨_,rfl,fun B W h=>h,rfl⟩
 refine (trimLimbs_row b j cap l w hl i m).mono ?_; rintro e w' ⟨rfl,rfl⟩; exact ⟨_,rfl,IsL.cut,rfl⟩
theorem IsL.below {B:Nat} {w w':World} {v:Value} {l:List Nat} (h:IsL B w v l) (hb:Up w w'):IsL B w' v l:=by
 obtain ⟨a,cap,rfl,hl,j,t,D⟩:=h; refine ⟨a,cap,rfl,hl,j,t,?_⟩
 rcases D with rfl|⟨b,s,rfl,u,m,A⟩
 ·exact .inl rfl
 refine .inr ⟨b,s,rfl,u,Nat.lt_of_lt_of_le m hb.size,fun i hi=>?_⟩; rw [hb.cell (p:=⟨b,s+i,none⟩) m]; exact A i hi
theorem IsL.mono {B B':Nat} {w:World} {v:Value} {l:List Nat} (h:IsL B w v l) (hb:B'≤B):IsL B' w v l:=by
 obtain ⟨a,cap,rfl,hl,i,m,A⟩:=h; refine ⟨a,cap,rfl,hl,i,m,?_⟩
 rcases A with rfl|⟨b,s,rfl,t,j,u⟩
 ·exact .inl rfl
 exact .inr ⟨b,s,rfl,Nat.le_trans hb t,j,u⟩
theorem IsL.setCell {B:Nat} {w:World} {v:Value} {l:List Nat} (h:IsL B w v l) (p:Addr) (u:Value) (hp:p.block<B):IsL B (w.setCell p u) v l:=by
 obtain ⟨a,cap,rfl,hl,j,s,E⟩:=h; refine ⟨a,cap,rfl,hl,j,s,?_⟩
 rcases E with rfl|⟨b,t,rfl,A,m,D⟩
 ·exact .inl rfl
 refine .inr ⟨b,t,rfl,A,by simpa using m,fun i hi=>?_⟩; rw [← D i hi]; exact World.cell?_of_block (Below.heap_setCell w p u b (by omega))
theorem isL_of_owns {B e:Nat} {w:World} {v:Value} {l:List Nat} (h:w.ownsRow B e 1 v l.length (l.map (fun x=>Value.int .u32 (x:Nat)))) (hok:okL l):IsL B w v l:=by
 have m:=fun g hg=>h.cells (g:=g) hg; have s:=h.lt; obtain ⟨_,h⟩:=h
 rcases h with ⟨rfl,hn⟩|⟨g,cap,A,rfl,D,t,hn,j,_,_⟩
 ·exact ⟨none,0,by rw [hn],by omega,by unfold maxLen; omega,hok,.inl (List.eq_nil_of_length_eq_zero hn)⟩
 refine ⟨_,cap,rfl,hn,j,hok,.inr ⟨g,0,rfl,D,(s g rfl).2,fun i hi=>?_⟩⟩; have:=m g rfl i (.int .u32 (l.getD i 0:Nat)) (by rw [List.getElem?_map]; simp [List.getD_eq_getElem?_getD,hi])
 by_cases u:i=0
 ·subst u; simpa [Addr.add] using this
 simpa [Addr.add,u] using this
theorem below_alloc (w:World) (o:Obj):Up w (w.alloc o):=(Below.refl _ _).alloc leR o
def negOf (neg:Bool) (l:List Nat):Bool:=neg&&decide (0<l.length)
theorem makeInteger_any (B:Nat) (neg:Bool) (v:Value) (l:List Nat) (w:World) (h:IsL B w v l) :
 Calls Tryz.prog 98 #[.bool neg,v] w fun e w'=>∃ v',e=.returned (.agg #[.bool (negOf neg (trimL l)),v'])∧CutL v v' l∧Up w w':=by
 have s:∀ o,IsL B (w.alloc o) v l:=fun o=>h.below (below_alloc w o); have m:=Hd s; clear s h
 cases neg
 all_goals
  go_enter Tryz.func98,Tryz.ntmps98
  go_wp2_with fail
  refine (trimLimbs_any B v l _ (m.o _)).mono ?_; rintro e D ⟨v',rfl,i,rfl⟩; have u:=Hd i; obtain ⟨a,cap,rfl,hl,t,j,A⟩:=i _ _ (m.o (.cells #[] 0)); clear A j i
  go_wp2
  refine bodyPost_ret (v:=.agg #[.bool (negOf _ (trimL l)),.slice a (trimL l).length cap]) ?_ rfl ⟨_,rfl,fun B W hW=>u.o B W hW,below_alloc _ _⟩; simp [results,Tryz.results98,go_sem,negOf]
def dropZ (l:List UInt8):List UInt8:=l.dropWhile (·==48)
def dropB (s:ByteArray):ByteArray:=⟨(dropZ s.data.toList).toArray⟩
def strLen:Value→Nat|.string s=>s.size|_=>0
theorem dropZ_zero (s:ByteArray) (h:0<s.size) (h0:s[0].toNat=48):dropZ (s.extract 1 s.size).data.toList=dropZ s.data.toList:=by
 have e:s[0]=48:=UInt8.toNat_inj.1 (by rw [h0]; rfl); have i:=head_eq s h; rw [Lib.extract_to_end]
 cases hl:s.data.toList with
 | nil=>rw [hl] at i; simp at i
 | cons a l=>
   rw [hl] at i; simp at i; rw [e] at i; subst i; simp [dropZ]
theorem dropZ_pos (s:ByteArray) (h:0<s.size) (h0:¬ s[0].toNat=48):dropZ s.data.toList=s.data.toList:=by
 have e:¬ s[0]=48:=fun e=>h0 (by rw [e]; rfl); have i:=head_eq s h
 cases hl:s.data.toList with
 | nil=>rfl
 | cons a l=>
   rw [hl] at i; simp at i; rw [← i] at e; simp [dropZ,e]
theorem dropZ_nil (s:ByteArray) (h:s.size=0):dropZ s.data.toList=s.data.toList:=by
 rw [List.eq_nil_of_length_eq_zero (l:=s.data.toList) (by rw [← Lib.size_eq]; exact h)]; rfl
theorem trimLeftByte_any (s:ByteArray) (w:World) (_hs:s.size≤maxLen) :
 Calls Tryz.prog 132 #[.string s,.int .u8 48] w fun e w'=>e=.returned (.string (dropB s))∧w'=w:=by
 unfold maxLen at _hs
 go_enter Tryz.func132,Tryz.ntmps132
 go_wp2
 go_loop [0] (fun v=>∃ t:ByteArray,t.size≤s.size∧v=.string t∧dropZ t.data.toList=dropZ s.data.toList) (fun v=>strLen v)
 case atStart=>exact ⟨s,leR,rfl,rfl⟩
 case round=>
  obtain ⟨t,F,rfl,D⟩:=hrel; have u:=Hd D; clear D
  by_cases E:t.size=0
  ·have j:Hid (dropB s=t):=by
    unfold Hid
    unfold dropB; rw [← u.o,dropZ_nil t E]
   have z:decide ((0:Int)<(t.size:Int))=false:=by rw [decide_eq_false_iff_not]; omega
   go_wp2
   go_ret
   exact ⟨by rw [j.o]; rfl,rfl⟩
  ·have i:0<t.size:=by omega
   by_cases m:t[0].toNat=48
   ·have z:((t[0].toNat:Int)==48)=true:=by rw [beq_iff_eq]; omega
    have j:Hid (dropZ (t.extract 1 t.size).data.toList=dropZ s.data.toList):=(dropZ_zero t i m).trans u.o; have A:Hid ((t.extract 1 t.size).size=t.size - 1):=ext_size t; clear m
    go_wp2
    go_round
    case rel=>exact ⟨_,by rw [A.o]; omega,rfl,j.o⟩
    case measure=>simp only [strLen]; rw [A.o]; omega
   ·have z:((t[0].toNat:Int)==48)=false:=by rw [beq_eq_false_iff_ne]; omega
    have j:Hid (dropB s=t):=by
     unfold Hid
     unfold dropB; rw [← u.o,dropZ_pos t i m]
    clear m
    go_wp2
    go_ret
    exact ⟨by rw [j.o]; rfl,rfl⟩
theorem trimLeft_any (s:ByteArray) (w:World) (hs:s.size≤maxLen) :
 Calls Tryz.prog 121 #[.string s,.string ⟨#[48]⟩] w fun e w'=>e=.returned (.string (dropB s))∧w'=w:=by
 have j:=hs; unfold maxLen at hs
 by_cases i:s.size=0
 ·have z:=toList_e s i; have m:Hid (dropB s=s):=by unfold Hid; unfold dropB; rw [dropZ_nil s i]
  clear i
  go_enter Tryz.func121,Tryz.ntmps121
  go_wp2
  go_ret
  exact ⟨by rw [m.o]; rfl,rfl⟩
 have z:=toList_ne s (by omega)
 go_enter Tryz.func121,Tryz.ntmps121
 go_wp2_with fail
 refine (trimLeftByte_any _ _ j).mono ?_; rintro e w' ⟨rfl,rfl⟩
 go_wp2
 go_ret
 exact ⟨rfl,rfl⟩
end Go.Proofs.YtnhbmpnhijgpmaaGreatDoor
