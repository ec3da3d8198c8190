import Derived.Test.YtdngpnlbhadbpaaDoorTkM
namespace Go.Proofs.YtdngpnlbhadbpaaDoor
open Go.ChangeShapes Go.WideShapes Go.ChangeAt Go.RowKit
/-- A reader's state: its place, the nodes so far, the lists that are open (the innermost first). -/
structure RS where
  i : Nat
  ns : List (Nd × Int)
  op : List Nat
/-- What a reader answers. -/
abbrev RR : Type := Sum (Int × Int) (List (Nd × Int))
abbrev RR.err (e q : Int) : RR := Sum.inl (e, q)
abbrev RR.ok (ns : List (Nd × Int)) : RR := Sum.inr ns
def blankB (c : UInt8) : Bool := decide (c.toNat = 32) || decide (c.toNat = 9) || decide (c.toNat = 10) || decide (c.toNat = 13)
def noteB (c : UInt8) : Bool := !decide (c.toNat = 10)
def incN (x : Nd × Int) : Nd × Int := (⟨x.1.kind, x.1.text, x.1.kids + 1⟩, x.2)
def bump (ns : List (Nd × Int)) : List Nat → List (Nd × Int)
  | [] => ns
  | j :: _ => ns.modify j incN
def addN (ns : List (Nd × Int)) (op : List Nat) (k : Int) (t : ByteArray) (q : Int) : List (Nd × Int) := bump ns op ++ [(⟨k, t, 0⟩, q)]
def addO (ns : List (Nd × Int)) (op : List Nat) (k : Int) : List Nat := if k = 1 then ns.length :: op else op
def addE (ns : List (Nd × Int)) (op : List Nat) (k : Int) : Int := if ns.length = 8000 then 5 else if k = 1 ∧ op.length = 200 then 6 else 0
def endQ (ns : List (Nd × Int)) (j : Nat) : Int := match ns[j]? with | some x => x.2 | none => 0
def endM (ns : List (Nd × Int)) : List Nat → RR
  | [] => RR.ok ns
  | j :: _ => RR.err 3 (endQ ns j)
/-- The node that begins at a byte that is no blank, no note and no bracket that closes. -/
def nodeL (l : List UInt8) : Option (Int × List UInt8 × Nat) := if l.head? = some 40 then some (1, [], 1) else tokL l
def goM (st : RS) : Option (Int × List UInt8 × Nat) → Sum RR RS
  | none => .inl (RR.err 2 st.i)
  | some (k, t, n) => if addE st.ns st.op k = 0 then .inr ⟨st.i + n, addN st.ns st.op k (strOf t) st.i, addO st.ns st.op k⟩ else .inl (RR.err (addE st.ns st.op k) st.i)
def closeM (st : RS) : Sum RR RS := match st.op with
  | [] => .inl (RR.err 4 st.i)
  | _ :: r => .inr ⟨st.i + 1, st.ns, r⟩
def stepC (st : RS) (l : List UInt8) (c : UInt8) : Sum RR RS :=
  if blankB c then .inr ⟨st.i + 1, st.ns, st.op⟩
  else if c.toNat = 59 then .inr ⟨st.i + runL noteB l, st.ns, st.op⟩
  else if c.toNat = 41 then closeM st
  else goM st (nodeL l)
def stepM (s : List UInt8) (st : RS) : Sum RR RS :=
  match s.drop st.i with
  | [] => .inl (endM st.ns st.op)
  | c :: u => stepC st (c :: u) c
/-- So many steps lead from a state to an answer. -/
def RunN (s : List UInt8) : Nat → RS → RR → Prop
  | 0, st, r => stepM s st = .inl r
  | n + 1, st, r => ∃ st', stepM s st = .inr st' ∧ RunN s n st' r
def Run (s : List UInt8) (st : RS) (r : RR) : Prop := ∃ n, RunN s n st r
theorem Run.done {s : List UInt8} {st : RS} {r : RR} (h : stepM s st = .inl r) : Run s st r := ⟨0, h⟩
theorem Run.next {s : List UInt8} {st st' : RS} {r : RR} (h : stepM s st = .inr st') (k : Run s st' r) : Run s st r := by
  obtain ⟨n, k⟩ := k
  exact ⟨n + 1, st', h, k⟩
theorem Run.fin {s : List UInt8} {st : RS} {r x : RR} (h : Run s st r) (e : stepM s st = .inl x) : x = r := by
  obtain ⟨n, h⟩ := h
  cases n with
  | zero => have h : stepM s st = .inl r := h; rw [h] at e; cases e; rfl
  | succ n => obtain ⟨_, h, _⟩ := h; rw [h] at e; cases e
theorem Run.go {s : List UInt8} {st st' : RS} {r : RR} (h : Run s st r) (e : stepM s st = .inr st') : Run s st' r := by
  obtain ⟨n, h⟩ := h
  cases n with
  | zero => have h : stepM s st = .inl r := h; rw [h] at e; cases e
  | succ n => obtain ⟨_, h, k⟩ := h; rw [h] at e; cases e; exact ⟨n, k⟩
theorem step_c {S : ByteArray} {st : RS} (h : st.i < S.size) : stepM S.data.toList st = stepC st (S.data.toList.drop st.i) S[st.i] := by
  unfold stepM; rw [drop_at h]
theorem step_end {S : ByteArray} {st : RS} (h : ¬ st.i < S.size) : stepM S.data.toList st = .inl (endM st.ns st.op) := by
  unfold stepM; rw [drop_end h]
theorem nodeL_some {l : List UInt8} {k : Int} {t : List UInt8} {n : Nat} (h : nodeL l = some (k, t, n)) : 0 < n ∧ n ≤ l.length ∧ k ≠ 0 := by
  unfold nodeL at h
  split at h
  · rename_i h0
    cases h
    cases l with
    | nil => cases h0
    | cons c u => simp
  · have := tokL_some h; exact ⟨this.1, this.2.1, this.2.2.2⟩
structure Inv (z : Nat) (st : RS) : Prop where
  i : st.i ≤ z
  n : st.ns.length ≤ 8000
  o : st.op.length ≤ 200
  j : ∀ j ∈ st.op, j < st.ns.length
  k : ∀ x ∈ st.ns, 0 ≤ x.1.kids ∧ x.1.kids ≤ st.ns.length
theorem bump_len (ns : List (Nd × Int)) (op : List Nat) : (bump ns op).length = ns.length := by
  cases op <;> simp [bump]
theorem bump_kids {ns : List (Nd × Int)} {op : List Nat} {m : Int} (h : ∀ x ∈ ns, 0 ≤ x.1.kids ∧ x.1.kids ≤ m) : ∀ x ∈ bump ns op, 0 ≤ x.1.kids ∧ x.1.kids ≤ m + 1 := by
  cases op with
  | nil => intro x hx; have := h x hx; omega
  | cons j r =>
    intro x hx
    simp only [bump] at hx
    obtain ⟨i, hi, e⟩ := List.mem_iff_getElem.1 hx
    rw [List.getElem_modify] at e
    have hi' : i < ns.length := by simpa using hi
    have := h _ (List.getElem_mem hi')
    split at e
    · rw [← e]; show 0 ≤ ns[i].1.kids + 1 ∧ ns[i].1.kids + 1 ≤ m + 1; omega
    · rw [← e]; omega
theorem addE_0 {ns : List (Nd × Int)} {op : List Nat} {k : Int} (h : addE ns op k = 0) : ns.length ≠ 8000 ∧ ¬ (k = 1 ∧ op.length = 200) := by
  unfold addE at h
  split at h
  · cases h
  · split at h
    · cases h
    · exact ⟨‹_›, ‹_›⟩
theorem addE_n {ns : List (Nd × Int)} {op : List Nat} {k : Int} (h : addE ns op k ≠ 0) : ns.length = 8000 ∨ (ns.length ≠ 8000 ∧ k = 1 ∧ op.length = 200) := by
  unfold addE at h
  split at h
  · exact .inl ‹_›
  · split at h
    · exact .inr ⟨‹_›, ‹_›⟩
    · exact absurd rfl h
theorem inv_add {z : Nat} {st : RS} (h : Inv z st) {k : Int} {t : ByteArray} {q : Int} {i : Nat} (hi : i ≤ z) (he : addE st.ns st.op k = 0) : Inv z ⟨i, addN st.ns st.op k t q, addO st.ns st.op k⟩ := by
  obtain ⟨h1, h2⟩ := addE_0 he
  have hn := h.n
  have ho := h.o
  have hl : (addN st.ns st.op k t q).length = st.ns.length + 1 := by simp [addN, bump_len]
  refine ⟨hi, ?_, ?_, ?_, ?_⟩
  · show (addN st.ns st.op k t q).length ≤ 8000; omega
  · show (addO st.ns st.op k).length ≤ 200
    unfold addO; split
    · simp; rename_i hk; have : st.op.length ≠ 200 := fun e => h2 ⟨hk, e⟩; omega
    · exact ho
  · show ∀ j ∈ addO st.ns st.op k, j < (addN st.ns st.op k t q).length
    intro j hj
    rw [hl]
    unfold addO at hj
    split at hj
    · rcases List.mem_cons.1 hj with rfl | hj
      · omega
      · have := h.j j hj; omega
    · have := h.j j hj; omega
  · show ∀ x ∈ addN st.ns st.op k t q, 0 ≤ x.1.kids ∧ x.1.kids ≤ (addN st.ns st.op k t q).length
    intro x hx
    rw [hl]
    unfold addN at hx
    rcases List.mem_append.1 hx with hx | hx
    · have := bump_kids h.k x hx; omega
    · rw [List.mem_singleton.1 hx]; show (0 : Int) ≤ 0 ∧ (0 : Int) ≤ _; omega
theorem inv_cut {z : Nat} {st : RS} (h : Inv z st) {j : Nat} {r : List Nat} (ho : st.op = j :: r) {i : Nat} (hi : i ≤ z) : Inv z ⟨i, st.ns, r⟩ := by
  have := h.o
  rw [ho] at this
  exact ⟨hi, h.n, by simp at this; show r.length ≤ 200; omega, fun j hj => h.j j (by rw [ho]; exact List.mem_cons_of_mem _ hj), h.k⟩
theorem inv_at {z : Nat} {st : RS} (h : Inv z st) {i : Nat} (hi : i ≤ z) : Inv z ⟨i, st.ns, st.op⟩ := ⟨hi, h.n, h.o, h.j, h.k⟩
theorem inv_new (z : Nat) : Inv z ⟨0, [], []⟩ := ⟨Nat.zero_le _, by simp, by simp, by simp, by simp⟩
theorem run_all (S : ByteArray) : ∀ (m : Nat) (st : RS), S.size - st.i ≤ m → ∃ r, Run S.data.toList st r
  | m, st, hm => by
    by_cases h : st.i < S.size
    · have hc := step_c h
      cases hs : stepM S.data.toList st with
      | inl r => exact ⟨r, .done hs⟩
      | inr st' =>
        have hlt : st.i < st'.i := by
          rw [hc] at hs
          unfold stepC at hs
          split at hs
          · cases hs; show _ < st.i + 1; omega
          split at hs
          · rename_i h59
            cases hs
            show _ < st.i + runL noteB (S.data.toList.drop st.i)
            rw [drop_at h]
            have : noteB S[st.i] = true := by unfold noteB; simp [h59]
            unfold runL; rw [if_pos this]; omega
          split at hs
          · unfold closeM at hs
            split at hs
            · cases hs
            · cases hs; show _ < st.i + 1; omega
          · cases hn : nodeL (S.data.toList.drop st.i) with
            | none => rw [hn] at hs; cases hs
            | some x =>
              obtain ⟨k, t, n⟩ := x
              have := nodeL_some hn
              rw [hn] at hs
              simp only [goM] at hs
              split at hs
              · cases hs; show _ < st.i + n; omega
              · cases hs
        match m, hm with
        | 0, hm => omega
        | m + 1, hm =>
          obtain ⟨r, hr⟩ := run_all S m st' (by omega)
          exact ⟨r, .next hs hr⟩
    · exact ⟨_, .done (step_end h)⟩
end Go.Proofs.YtdngpnlbhadbpaaDoor
