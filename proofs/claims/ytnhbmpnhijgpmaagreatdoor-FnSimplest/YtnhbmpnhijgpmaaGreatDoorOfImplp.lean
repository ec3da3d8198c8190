import Derived.Test.YtnhbmpnhijgpmaaGreatDoorBATp
import Derived.Test.YtnhbmpnhijgpmaaGreatDoorM2p
import Derived.Test.YtnhbmpnhijgpmaaGreatDoorReadImplp
namespace Go.Proofs.YtnhbmpnhijgpmaaGreatDoor
open Go.ChangeShapes Go.WideShapes Go.ChangeAt Go.RowKit
theorem val_trimL (l:List Nat):val (trimL l)=val l:=by
 induction hn:l.length generalizing l with
 | zero=>rw [List.eq_nil_of_length_eq_zero hn]; rfl
 | succ n ih=>
   have i:l≠[]:=by intro h; rw [h] at hn; simp at hn
   rw [← List.dropLast_concat_getLast i]
   by_cases j:l.getLast i=0
   ·rw [j,trimL_snoc_zero,val_snoc,ih _ (by simp [hn])]; omega
   ·rw [trimL_snoc_pos _ _ j]
theorem isTrim_tail (x:Nat) (l:List Nat) (h:isTrim (x::l)):isTrim l:=by
 intro i; have:=h (by simp)
 rwa [List.getLast_cons i] at this
theorem val_inj (a b:List Nat) (ha:okL a) (hb:okL b) (ta:isTrim a) (tb:isTrim b) (h:val a=val b):a=b:=by
 induction a generalizing b with
 | nil=>
   by_cases i:b=[]
   ·rw [i]
   ·have:=val_pos b tb i; rw [← h] at this; simp [val] at this
 | cons x a ih=>
   cases b with
   | nil=>
     have:=val_pos (x::a) ta (by simp); rw [h] at this; simp [val] at this
   | cons y b=>
     have s:=ha x (by simp); have t:=hb y (by simp); simp only [val] at h; have j:x=y:=by omega
     have m:val a=val b:=by omega
     rw [j,ih b (fun z hz=>ha z (by simp [hz])) (fun z hz=>hb z (by simp [hz])) (isTrim_tail x a ta) (isTrim_tail y b tb) m]
def wl (n k:Nat):List Nat:=(List.range k).map (fun i=>n / 1000000000 ^ i % 1000000000)
theorem wl_succ (n k:Nat):wl n (k+1)=wl n k++[n / 1000000000 ^ k % 1000000000]:=by simp [wl,List.range_succ]
theorem wl_length (n k:Nat):(wl n k).length=k:=by simp [wl]
theorem wl_ok (n k:Nat):okL (wl n k):=by
 intro x j; unfold wl at j; rw [List.mem_map] at j; obtain ⟨i,_,rfl⟩:=j; exact Nat.mod_lt _ (by decide)
theorem wl_val (n k:Nat):val (wl n k)+1000000000 ^ k*(n / 1000000000 ^ k)=n:=by
 induction k with
 | zero=>simp [wl,val]
 | succ k ih=>
   rw [wl_succ,val_snoc,wl_length,Nat.pow_succ,← Nat.div_div_eq_div_mul]; have i:=Nat.div_add_mod (n / 1000000000 ^ k) 1000000000; have j:1000000000 ^ k*(n / 1000000000 ^ k)=1000000000 ^ k*(1000000000*(n / 1000000000 ^ k / 1000000000)+n / 1000000000 ^ k % 1000000000):=by rw [i]
   rw [Nat.mul_add,← Nat.mul_assoc] at j; omega
def textT (neg:Bool) (l:List Nat):ByteArray:=if l.length=0 then strB [48] else textS neg l
theorem text_any (B:Nat) (neg:Bool) (v:Value) (l:List Nat) (w:World) (hI:IsL B w v l) (hlen:l.length≤600) (hLT:LT w) :
 Calls Tryz.prog 84 #[.agg #[.bool neg,v]] w fun e w'=>e=.returned (.string (textT neg l))∧Up w w':=by
 by_cases h:l.length=0
 ·obtain ⟨a,cap,rfl,_⟩:=hI; rw [h]; refine (text_zero neg a cap w).mono ?_; rintro e w' ⟨rfl,i⟩; exact ⟨by unfold textT; rw [if_pos h]; rfl,i⟩
 refine (text_pos B neg v l w hI (by omega) hlen hLT).mono ?_; rintro e w' ⟨rfl,i⟩; exact ⟨by unfold textT; rw [if_neg h],i⟩
theorem LT.below {w w':World} (h:LT w) (hb:Up w w'):LT w':=fun j hj=>(hb.cell (p:=⟨2,j,none⟩) (block_lt h)).trans (h j hj)
end Go.Proofs.YtnhbmpnhijgpmaaGreatDoor
