import PyProof.Rows.All
import Wide.All
import OpenK.AllK
import Wide.FinOn
import HandS.ForMost
import HandS.Gcd
import HandS.Wide
import HandS.IsInst
import HandS.Style
import HandS.Zip
import HandS.Evl
import KE.GoesMore
import KE.GoesEnum

import PySem.Challenge.RW_eitherbarter_k21_fractions
set_option Elab.async false
set_option linter.all false
set_option maxRecDepth 100000
set_option maxHeartbeats 4000000
namespace My
open PySem PySem.Spec PyProof.Rows L2
/-! ### rules of my own -/
/-- // by any divisor but 0, below 2 ^ 9000 in size -/
def CDivX (_ j : Int) : Prop := j ≠ 0 ∧ j.natAbs.log2 < 9000
section
variable {X : Cx}
theorem op_fdivX : OpR X (binaryOp .FloorDiv) (rI CDivX fun i j => .int (i.fdiv j)) := opI fun _ _ _ _ _ _ _ hc q =>
  floordiv_int hc.1 q (.inl (PyProof.noPylong_of_log2 hc.2))
def rReprB : List V → Hp → VK → Prop := fun xs H Q => ∃ b : Bool, xs = [.bl b] ∧ Q (.str (if b then "True" else "False")) H
theorem call_repr_bl : CallR X (.builtin "repr") rReprB := by
  intro pins s σ H xs us Q I r h
  obtain ⟨b, rfl, q⟩ := h
  obtain ⟨u, rfl, r1⟩ := vals1 r
  cases (show u = Value.bool b from r1)
  exact PySem.P.repr_of_bool ⟨.str _, H, I.tok _, ⟨_, rfl⟩, q⟩
end
theorem iteD {p : Prop} [Decidable p] {A B : Prop} (h1 : p → A) (h2 : ¬ p → B) : if decide p = true then A else B := by
  by_cases h : p
  · rw [decide_eq_true h]; exact iteT (h1 h)
  · rw [decide_eq_false h]; exact iteF (h2 h)
theorem iteN {p : Prop} [Decidable p] {A B : Prop} (h1 : ¬ p → A) (h2 : p → B) : if (!decide p) = true then A else B := by
  by_cases h : p
  · rw [decide_eq_true h]; exact iteF (h2 h)
  · rw [decide_eq_false h]; exact iteT (h1 h)
/-- a while whose test leaves the heap as it is -/
theorem while_b {c : TT} {tb : TS} {D : Ends} {σ : L2.St} {H : Hp} (Pv : L2.St → Hp → Prop) (μ : L2.St → Hp → Nat) (h0 : Pv σ H)
    (hs : ∀ σ H, Pv σ H → ∃ b, (∀ Q : Bool → Hp → Prop, Q b H → c σ H Q) ∧
      (if b = true then tb { D with nx := fun σ' H' => Pv σ' H' ∧ μ σ' H' < μ σ H, ct := fun σ' H' => Pv σ' H' ∧ μ σ' H' < μ σ H, bk := D.nx } σ H else D.nx σ H)) : tWhile c tb D σ H := by
  refine ⟨fun m σ H => m = μ σ H ∧ Pv σ H, ⟨_, rfl, h0⟩, ?_⟩
  rintro m σ H ⟨rfl, p⟩
  obtain ⟨b, hc, ht⟩ := hs σ H p
  refine hc _ ?_
  cases b with
  | true =>
    rw [if_pos rfl] at ht
    exact ⟨_, fun σ' H' ⟨p', l⟩ => ⟨_, l, rfl, p'⟩, ht⟩
  | false =>
    rw [if_neg Bool.false_ne_true] at ht
    exact ht
theorem same_new {H : Hp} {p : Addr} (h : H p = none) (o : HO) : Same H (upd H p o) := fun b u q => by rw [upd_ne (ne_of_none q h)]; exact q
theorem small {n : Nat} (h : n ≤ 1000) : n ≤ sizeLine := Nat.le_of_lt (small1000 h)
/-! ### the source of draws: a dict at s, the cells' list at c -/
def srcD (c : Addr) (l m t : Int) : List (Key × V) := [(.inr "cells", .ref c), (.inr "left", .int l), (.inr "mixed", .int m), (.inr "turn", .int t)]
structure SrcL (H : Hp) (s c : Addr) (l m t : Int) (ns : List Int) : Prop where
  hs : H s = some (.dK (srcD c l m t))
  hc : H c = some (.lst (ns.map V.int))
  l0 : 0 ≤ l
  m0 : 0 ≤ m
  m1 : m < 4294967296
  t0 : 0 ≤ t
  n0 : ∀ n ∈ ns, 0 ≤ n
  len : ns.length ≤ 63
def Src (H : Hp) (s c : Addr) : Prop := ∃ l m t ns, SrcL H s c l m t ns
theorem k_cl : ¬ ((Sum.inr "cells" : Key) = (Sum.inr "left" : Key)) := by decide +kernel
theorem k_cm : ¬ ((Sum.inr "cells" : Key) = (Sum.inr "mixed" : Key)) := by decide +kernel
theorem k_ct : ¬ ((Sum.inr "cells" : Key) = (Sum.inr "turn" : Key)) := by decide +kernel
theorem k_lm : ¬ ((Sum.inr "left" : Key) = (Sum.inr "mixed" : Key)) := by decide +kernel
theorem k_lt : ¬ ((Sum.inr "left" : Key) = (Sum.inr "turn" : Key)) := by decide +kernel
theorem k_mt : ¬ ((Sum.inr "mixed" : Key) = (Sum.inr "turn" : Key)) := by decide +kernel
theorem get_cells (c : Addr) (l m t : Int) : valV (srcD c l m t) (Sum.inr "cells") = some (.ref c) := valV_pos rfl
theorem get_left (c : Addr) (l m t : Int) : valV (srcD c l m t) (Sum.inr "left") = some (.int l) := by
  unfold srcD; rw [valV_neg k_cl, valV_pos rfl]
theorem get_mixed (c : Addr) (l m t : Int) : valV (srcD c l m t) (Sum.inr "mixed") = some (.int m) := by
  unfold srcD; rw [valV_neg k_cm, valV_neg k_lm, valV_pos rfl]
theorem get_turn (c : Addr) (l m t : Int) : valV (srcD c l m t) (Sum.inr "turn") = some (.int t) := by
  unfold srcD; rw [valV_neg k_ct, valV_neg k_lt, valV_neg k_mt, valV_pos rfl]
theorem put_there {kvs : List (Key × V)} {k : Key} {u : V} (v : V) (h : valV kvs k = some u) : putK kvs k v = kvs.map (fun kv => if kv.1 = k then (kv.1, v) else kv) := by
  unfold putK
  rw [valV_any, h]
  exact if_pos rfl
theorem put_left (c : Addr) (l m t v : Int) : putK (srcD c l m t) (Sum.inr "left") (.int v) = srcD c v m t := by
  rw [put_there _ (get_left c l m t)]
  show [if (Sum.inr "cells" : Key) = (Sum.inr "left" : Key) then ((Sum.inr "cells" : Key), V.int v) else (Sum.inr "cells", V.ref c), if (Sum.inr "left" : Key) = (Sum.inr "left" : Key) then ((Sum.inr "left" : Key), V.int v) else (Sum.inr "left", V.int l),
    if (Sum.inr "mixed" : Key) = (Sum.inr "left" : Key) then ((Sum.inr "mixed" : Key), V.int v) else (Sum.inr "mixed", V.int m), if (Sum.inr "turn" : Key) = (Sum.inr "left" : Key) then ((Sum.inr "turn" : Key), V.int v) else (Sum.inr "turn", V.int t)] = _
  rw [if_neg k_cl, if_pos rfl, if_neg (Ne.symm k_lm), if_neg (Ne.symm k_lt)]
  rfl
theorem put_mixed (c : Addr) (l m t v : Int) : putK (srcD c l m t) (Sum.inr "mixed") (.int v) = srcD c l v t := by
  rw [put_there _ (get_mixed c l m t)]
  show [if (Sum.inr "cells" : Key) = (Sum.inr "mixed" : Key) then ((Sum.inr "cells" : Key), V.int v) else (Sum.inr "cells", V.ref c), if (Sum.inr "left" : Key) = (Sum.inr "mixed" : Key) then ((Sum.inr "left" : Key), V.int v) else (Sum.inr "left", V.int l),
    if (Sum.inr "mixed" : Key) = (Sum.inr "mixed" : Key) then ((Sum.inr "mixed" : Key), V.int v) else (Sum.inr "mixed", V.int m), if (Sum.inr "turn" : Key) = (Sum.inr "mixed" : Key) then ((Sum.inr "turn" : Key), V.int v) else (Sum.inr "turn", V.int t)] = _
  rw [if_neg k_cm, if_neg k_lm, if_pos rfl, if_neg (Ne.symm k_mt)]
  rfl
theorem put_turn (c : Addr) (l m t v : Int) : putK (srcD c l m t) (Sum.inr "turn") (.int v) = srcD c l m v := by
  rw [put_there _ (get_turn c l m t)]
  show [if (Sum.inr "cells" : Key) = (Sum.inr "turn" : Key) then ((Sum.inr "cells" : Key), V.int v) else (Sum.inr "cells", V.ref c), if (Sum.inr "left" : Key) = (Sum.inr "turn" : Key) then ((Sum.inr "left" : Key), V.int v) else (Sum.inr "left", V.int l),
    if (Sum.inr "mixed" : Key) = (Sum.inr "turn" : Key) then ((Sum.inr "mixed" : Key), V.int v) else (Sum.inr "mixed", V.int m), if (Sum.inr "turn" : Key) = (Sum.inr "turn" : Key) then ((Sum.inr "turn" : Key), V.int v) else (Sum.inr "turn", V.int t)] = _
  rw [if_neg k_ct, if_neg k_lt, if_neg k_mt, if_pos rfl]
  rfl
theorem srcD_made (c : Addr) (m : Int) : mergeK [] (srcD c 1 m 0) = srcD c 1 m 0 := by
  have p1 : putK ([] : List (Key × V)) (Sum.inr "cells" : Key) (V.ref c) = [((Sum.inr "cells" : Key), V.ref c)] := by rw [putK_new _ valV_nil]; rfl
  have p2 : putK ([((Sum.inr "cells" : Key), V.ref c)] : List (Key × V)) (Sum.inr "left" : Key) (V.int 1) = [((Sum.inr "cells" : Key), V.ref c), ((Sum.inr "left" : Key), V.int 1)] := by
    rw [putK_new _ (by rw [valV_neg k_cl, valV_nil])]; rfl
  have p3 : putK ([((Sum.inr "cells" : Key), V.ref c), ((Sum.inr "left" : Key), V.int 1)] : List (Key × V)) (Sum.inr "mixed" : Key) (V.int m) = [((Sum.inr "cells" : Key), V.ref c), ((Sum.inr "left" : Key), V.int 1), ((Sum.inr "mixed" : Key), V.int m)] := by
    rw [putK_new _ (by rw [valV_neg k_cm, valV_neg k_lm, valV_nil])]; rfl
  have p4 : putK ([((Sum.inr "cells" : Key), V.ref c), ((Sum.inr "left" : Key), V.int 1), ((Sum.inr "mixed" : Key), V.int m)] : List (Key × V)) (Sum.inr "turn" : Key) (V.int 0) = srcD c 1 m 0 := by
    rw [putK_new _ (by rw [valV_neg k_ct, valV_neg k_lt, valV_neg k_mt, valV_nil])]; rfl
  show putK (putK (putK (putK [] (Sum.inr "cells" : Key) (V.ref c)) (Sum.inr "left" : Key) (V.int 1)) (Sum.inr "mixed" : Key) (V.int m)) (Sum.inr "turn" : Key) (V.int 0) = srcD c 1 m 0
  rw [p1, p2, p3, p4]
theorem SrcL.ne {H : Hp} {s c : Addr} {l m t : Int} {ns : List Int} (h : SrcL H s c l m t ns) : s ≠ c := ne_of h.hs h.hc (by intro z; cases z)
/-- all but the source stands as it stood; the source is one -/
structure Go (s c : Addr) (H H' : Hp) : Prop where
  keep : ∀ a o, a ≠ s → a ≠ c → H a = some o → H' a = some o
  src : Src H' s c
theorem Src.ne_tup {H : Hp} {s c a : Addr} {xs : List V} (h : Src H s c) (e : H a = some (.tup xs)) : a ≠ s ∧ a ≠ c := by
  obtain ⟨l, m, t, ns, h⟩ := h
  exact ⟨ne_of e h.hs (by intro z; cases z), ne_of e h.hc (by intro z; cases z)⟩
theorem Src.ne_none {H : Hp} {s c a : Addr} (h : Src H s c) (e : H a = none) : a ≠ s ∧ a ≠ c := by
  obtain ⟨l, m, t, ns, h⟩ := h
  refine ⟨fun q => ?_, fun q => ?_⟩
  · rw [q, h.hs] at e
    cases e
  · rw [q, h.hc] at e
    cases e
theorem Src.same {H H' : Hp} {s c : Addr} (h : Src H s c) (e : Same H H') : Src H' s c := by
  obtain ⟨l, m, t, ns, h⟩ := h
  exact ⟨l, m, t, ns, e _ _ h.hs, e _ _ h.hc, h.l0, h.m0, h.m1, h.t0, h.n0, h.len⟩
theorem Go.refl {H : Hp} {s c : Addr} (h : Src H s c) : Go s c H H := ⟨fun _ _ _ _ e => e, h⟩
theorem Go.of {H H' : Hp} {s c : Addr} (h : Src H s c) (e : Same H H') : Go s c H H' := ⟨fun a o _ _ q => e a o q, h.same e⟩
theorem Go.trans {H H1 H2 : Hp} {s c : Addr} (a : Go s c H H1) (b : Go s c H1 H2) : Go s c H H2 := ⟨fun x o h1 h2 e => b.keep x o h1 h2 (a.keep x o h1 h2 e), b.src⟩
theorem Go.then {H H1 H2 : Hp} {s c : Addr} (a : Go s c H H1) (b : Same H1 H2) : Go s c H H2 := a.trans (.of a.src b)
theorem Go.tup {H H' : Hp} {s c a : Addr} {xs : List V} (g : Go s c H H') (h : Src H s c) (e : H a = some (.tup xs)) : H' a = some (.tup xs) :=
  g.keep _ _ (h.ne_tup e).1 (h.ne_tup e).2 e
theorem Go.lst {H H' : Hp} {s c a : Addr} {xs : List V} (g : Go s c H H') (h : Src H s c) (e : H a = some (.lst xs)) (n : a ≠ c) : H' a = some (.lst xs) := by
  obtain ⟨l, m, t, ns, h⟩ := h
  exact g.keep _ _ (ne_of e h.hs (by intro z; cases z)) n e
theorem Go.free {H H' : Hp} {s c a : Addr} (g : Go s c H H') (e : H' a = none) : H a = none := by
  have n := g.src.ne_none e
  cases q : H a with
  | none => rfl
  | some o =>
    rw [g.keep _ _ n.1 n.2 q] at e
    cases e
/-! ### what the draws promise -/
def spPick : Sp := fun vs H Q _ => ∃ (s c : Addr) (n : Int), vs = [.ref s, .int n] ∧ Src H s c ∧ 1 ≤ n ∧ n < 1000000 ∧
  ∀ (k : Int) (H' : Hp), 0 ≤ k → k < n → Go s c H H' → Q (.int k) H'
def spOf (K : PySem.W.Frag) : Sp := fun vs H Q _ => ∃ (s c a : Addr) (xs : List V), vs = [.ref s, .ref a] ∧ Src H s c ∧ H a = some (.lst xs) ∧ a ≠ c ∧ 1 ≤ xs.length ∧ xs.length < 1000000 ∧
  ∀ (i : Nat) (x : V) (H' : Hp), xs[i]? = some x → Go s c H H' → Q x H'
def spSource (K : PySem.W.Frag) : Sp := fun vs H Q _ => ∃ (a : Addr) (ns : List Int), vs = [.ref a] ∧ SqL K H a (ns.map V.int) ∧ ns.length ≤ 63 ∧
  ∀ (s c : Addr) (H' : Hp), Same H H' → H s = none → H c = none → Src H' s c → Q (.ref s) H'
def spLaw (K : PySem.W.Frag) : Sp := fun vs H Q _ => ∃ (a : Addr) (ns : List Int), vs = [.ref a] ∧ SqL K H a (ns.map V.int) ∧ ns.length ≤ 63 ∧ ∀ H', Q (.bl true) H'
end My
namespace My
open PySem PySem.Spec PyProof.Rows L2
def top (i : Nat) : Stmt := PySem.Challenge.pw_eitherbarter_k21_fractions.main.body.getD i (.Pass ⟨0, 0, 0, 0⟩)
abbrev s_is_integer : Stmt := top 2
abbrev s_lowest : Stmt := top 4
abbrev s_added : Stmt := top 5
abbrev s_times : Stmt := top 6
abbrev s_is_fraction : Stmt := top 7
abbrev s_row_sum : Stmt := top 8
abbrev s_law_pick : Stmt := top 10
abbrev s_law_of : Stmt := top 11
abbrev s_law_lowest : Stmt := top 12
abbrev s_law_source : Stmt := top 13
abbrev s_law_row_sum : Stmt := top 14
abbrev s_law_odd : Stmt := top 15
abbrev s_law_is_fraction : Stmt := top 16
abbrev s_law_number : Stmt := top 17
abbrev s_law_drawn : Stmt := top 18
abbrev s_law : Stmt := top 19
theorem sc_is_integer : FnScope ["value"] ["value"] (defScope s_is_integer) := ⟨rfl, rfl, rfl, by decide +kernel, rfl, by decide +kernel, by decide +kernel⟩
theorem sc_lowest : FnScope ["a", "b", "divisor"] ["a", "b"] (defScope s_lowest) := ⟨rfl, rfl, rfl, by decide +kernel, rfl, by decide +kernel, by decide +kernel⟩
theorem sc_added : FnScope ["one", "other"] ["one", "other"] (defScope s_added) := ⟨rfl, rfl, rfl, by decide +kernel, rfl, by decide +kernel, by decide +kernel⟩
theorem sc_times : FnScope ["one", "other"] ["one", "other"] (defScope s_times) := ⟨rfl, rfl, rfl, by decide +kernel, rfl, by decide +kernel, by decide +kernel⟩
theorem sc_is_fraction : FnScope ["value", "a", "b"] ["value"] (defScope s_is_fraction) := ⟨rfl, rfl, rfl, by decide +kernel, rfl, by decide +kernel, by decide +kernel⟩
theorem sc_row_sum : FnScope ["row", "fractions", "total", "number", "fraction"] ["row", "fractions"] (defScope s_row_sum) := ⟨rfl, rfl, rfl, by decide +kernel, rfl, by decide +kernel, by decide +kernel⟩
theorem sc_law_pick : FnScope ["_law_source_here", "_law_many", "_law_left", "_law_mixed"] ["_law_source_here", "_law_many"] (defScope s_law_pick) := ⟨rfl, rfl, rfl, by decide +kernel, rfl, by decide +kernel, by decide +kernel⟩
theorem sc_law_of : FnScope ["_law_source_here", "_law_some"] ["_law_source_here", "_law_some"] (defScope s_law_of) := ⟨rfl, rfl, rfl, by decide +kernel, rfl, by decide +kernel, by decide +kernel⟩
theorem sc_law_lowest : FnScope ["_law_a", "_law_b", "_law_one", "_law_other"] ["_law_a", "_law_b"] (defScope s_law_lowest) := ⟨rfl, rfl, rfl, by decide +kernel, rfl, by decide +kernel, by decide +kernel⟩
theorem sc_law_source : FnScope ["_law_script", "_law_mixed", "_law_cell"] ["_law_script"] (defScope s_law_source) := ⟨rfl, rfl, rfl, by decide +kernel, rfl, by decide +kernel, by decide +kernel⟩
theorem sc_law_row_sum : FnScope ["_law_row", "_law_fractions", "_law_top", "_law_below", "_law_k"] ["_law_row", "_law_fractions"] (defScope s_law_row_sum) := ⟨rfl, rfl, rfl, by decide +kernel, rfl, by decide +kernel, by decide +kernel⟩
theorem sc_law_odd : FnScope ["_law_source_here", "_law_some"] ["_law_source_here"] (defScope s_law_odd) := ⟨rfl, rfl, rfl, by decide +kernel, rfl, by decide +kernel, by decide +kernel⟩
theorem sc_law_is_fraction : FnScope ["_law_value", "_law_one"] ["_law_value"] (defScope s_law_is_fraction) := ⟨rfl, rfl, rfl, by decide +kernel, rfl, by decide +kernel, by decide +kernel⟩
theorem sc_law_number : FnScope ["_law_source_here", "_law_great"] ["_law_source_here"] (defScope s_law_number) := ⟨rfl, rfl, rfl, by decide +kernel, rfl, by decide +kernel, by decide +kernel⟩
theorem sc_law_drawn : FnScope ["_law_source_here", "_law_below"] ["_law_source_here"] (defScope s_law_drawn) := ⟨rfl, rfl, rfl, by decide +kernel, rfl, by decide +kernel, by decide +kernel⟩
theorem sc_law : FnScope ["_law_script", "_law_source_here", "_law_lap", "_law_a", "_law_b", "_law_one", "_law_other", "_law_many", "_law_row", "_law_some", "_law_odd_here", "_law_near", "_law_value", "_law_k"] ["_law_script"] (defScope s_law) := ⟨rfl, rfl, rfl, by decide +kernel, rfl, by decide +kernel, by decide +kernel⟩
structure Tx (K : PySem.W.Frag) (mg : Str → Option Value) where
  a_is_integer : Addr
  fd_is_integer : FuncData
  F_is_integer : Fun K "is_integer" "is_integer" s_is_integer a_is_integer fd_is_integer
  b_is_integer : Binds K fd_is_integer ["value"] []
  m_is_integer : mg "is_integer" = some (.ref a_is_integer)
  a_lowest : Addr
  fd_lowest : FuncData
  F_lowest : Fun K "lowest" "lowest" s_lowest a_lowest fd_lowest
  b_lowest : Binds K fd_lowest ["a", "b"] []
  m_lowest : mg "lowest" = some (.ref a_lowest)
  a_added : Addr
  fd_added : FuncData
  F_added : Fun K "added" "added" s_added a_added fd_added
  b_added : Binds K fd_added ["one", "other"] []
  m_added : mg "added" = some (.ref a_added)
  a_times : Addr
  fd_times : FuncData
  F_times : Fun K "times" "times" s_times a_times fd_times
  b_times : Binds K fd_times ["one", "other"] []
  m_times : mg "times" = some (.ref a_times)
  a_is_fraction : Addr
  fd_is_fraction : FuncData
  F_is_fraction : Fun K "is_fraction" "is_fraction" s_is_fraction a_is_fraction fd_is_fraction
  b_is_fraction : Binds K fd_is_fraction ["value"] []
  m_is_fraction : mg "is_fraction" = some (.ref a_is_fraction)
  a_row_sum : Addr
  fd_row_sum : FuncData
  F_row_sum : Fun K "row_sum" "row_sum" s_row_sum a_row_sum fd_row_sum
  b_row_sum : Binds K fd_row_sum ["row", "fractions"] []
  m_row_sum : mg "row_sum" = some (.ref a_row_sum)
  a_law_pick : Addr
  fd_law_pick : FuncData
  F_law_pick : Fun K "_law_pick" "_law_pick" s_law_pick a_law_pick fd_law_pick
  b_law_pick : Binds K fd_law_pick ["_law_source_here", "_law_many"] []
  m_law_pick : mg "_law_pick" = some (.ref a_law_pick)
  a_law_of : Addr
  fd_law_of : FuncData
  F_law_of : Fun K "_law_of" "_law_of" s_law_of a_law_of fd_law_of
  b_law_of : Binds K fd_law_of ["_law_source_here", "_law_some"] []
  m_law_of : mg "_law_of" = some (.ref a_law_of)
  a_law_lowest : Addr
  fd_law_lowest : FuncData
  F_law_lowest : Fun K "_law_lowest" "_law_lowest" s_law_lowest a_law_lowest fd_law_lowest
  b_law_lowest : Binds K fd_law_lowest ["_law_a", "_law_b"] []
  m_law_lowest : mg "_law_lowest" = some (.ref a_law_lowest)
  a_law_source : Addr
  fd_law_source : FuncData
  F_law_source : Fun K "_law_source" "_law_source" s_law_source a_law_source fd_law_source
  b_law_source : Binds K fd_law_source ["_law_script"] []
  m_law_source : mg "_law_source" = some (.ref a_law_source)
  a_law_row_sum : Addr
  fd_law_row_sum : FuncData
  F_law_row_sum : Fun K "_law_row_sum" "_law_row_sum" s_law_row_sum a_law_row_sum fd_law_row_sum
  b_law_row_sum : Binds K fd_law_row_sum ["_law_row", "_law_fractions"] []
  m_law_row_sum : mg "_law_row_sum" = some (.ref a_law_row_sum)
  a_law_odd : Addr
  fd_law_odd : FuncData
  F_law_odd : Fun K "_law_odd" "_law_odd" s_law_odd a_law_odd fd_law_odd
  b_law_odd : Binds K fd_law_odd ["_law_source_here"] []
  m_law_odd : mg "_law_odd" = some (.ref a_law_odd)
  a_law_is_fraction : Addr
  fd_law_is_fraction : FuncData
  F_law_is_fraction : Fun K "_law_is_fraction" "_law_is_fraction" s_law_is_fraction a_law_is_fraction fd_law_is_fraction
  b_law_is_fraction : Binds K fd_law_is_fraction ["_law_value"] []
  m_law_is_fraction : mg "_law_is_fraction" = some (.ref a_law_is_fraction)
  a_law_number : Addr
  fd_law_number : FuncData
  F_law_number : Fun K "_law_number" "_law_number" s_law_number a_law_number fd_law_number
  b_law_number : Binds K fd_law_number ["_law_source_here"] []
  m_law_number : mg "_law_number" = some (.ref a_law_number)
  a_law_drawn : Addr
  fd_law_drawn : FuncData
  F_law_drawn : Fun K "_law_drawn" "_law_drawn" s_law_drawn a_law_drawn fd_law_drawn
  b_law_drawn : Binds K fd_law_drawn ["_law_source_here"] []
  m_law_drawn : mg "_law_drawn" = some (.ref a_law_drawn)
  a_law : Addr
  fd_law : FuncData
  F_law : Fun K "law" "law" s_law a_law fd_law
  b_law : Binds K fd_law ["_law_script"] []
  m_law : mg "law" = some (.ref a_law)
  g_gcd : mg "gcd" = some (.builtin "math.gcd")
  n_abs : mg "abs" = none
  n_bool : mg "bool" = none
  n_int : mg "int" = none
  n_isinstance : mg "isinstance" = none
  n_len : mg "len" = none
  n_list : mg "list" = none
  n_max : mg "max" = none
  n_range : mg "range" = none
  n_repr : mg "repr" = none
  n_tuple : mg "tuple" = none
  n_zip : mg "zip" = none
end My
namespace My
open PySem PySem.Spec PyProof.Rows L2
/-! ### zip of two sequences, each a list or a tuple -/
def SqK (k : Bool) (K : PySem.W.Frag) (H : Hp) (a : Addr) (xs : List V) : Prop := match k with
  | true => SqT K H a xs
  | false => SqL K H a xs
def ItK (k : Bool) (h : Heap) (it a : Addr) (i : Nat) : Prop := match k with
  | true => h.IsTupleIter it a i
  | false => h.IsListIter it a i
def HeK (k : Bool) (h : Heap) (a : Addr) (its : Array Value) : Prop := match k with
  | true => h.IsTuple a its
  | false => h.IsList a its
theorem drawK {prog : Program} {w : World} {A : Around} (hh : A.handled = none) (k : Bool) (it l : Addr) (hne : l ≠ it) (items : Array Value) :
    Draws prog w A it [it, l] items.size (fun i v => items[i]? = some v) (fun i h => ItK k h it l i ∧ HeK k h l items) := by
  cases k with
  | true => exact Draws.tuple hh it l hne items
  | false => exact Draws.list hh it l hne items
theorem ItK.to {k : Bool} {h h' : Heap} {it a : Addr} {i : Nat} (x : ItK k h it a i) (q : ∀ o, h.get? it = some o → h'.get? it = some o) : ItK k h' it a i := by
  cases k with
  | true => exact Heap.IsTupleIter.at x q
  | false => exact Heap.IsListIter.at x q
theorem ItK.ob {k : Bool} {h : Heap} {it a : Addr} {i : Nat} (x : ItK k h it a i) : ∃ o, h.get? it = some o ∧ ∀ v, o.data ≠ .cell v := by
  cases k with
  | true => obtain ⟨o, e, _, d⟩ := x; exact ⟨o, e, fun v q => by rw [d] at q; cases q⟩
  | false => obtain ⟨o, e, _, d⟩ := x; exact ⟨o, e, fun v q => by rw [d] at q; cases q⟩
section
variable {X : Cx} {pins : List (Addr × Obj)} {σ : L2.St} {H : Hp} {s : Shared}
theorem readK (I : Inv X pins σ H s) {k : Bool} {a : Addr} {xs : List V} (h : SqK k X.K H a xs) : ∃ its : List Value, Vals xs its ∧ HeK k s.heap a its.toArray ∧ a < s.heap.objs.size := by
  cases k with
  | true =>
    obtain ⟨its, r, p, _⟩ := I.tuple (show SqT X.K H a xs from h)
    obtain ⟨o, e, _⟩ := id p
    exact ⟨its, r, p, Heap.lt_size e⟩
  | false =>
    obtain ⟨its, r, p, _⟩ := I.list (show SqL X.K H a xs from h)
    exact ⟨its, r, p.isList, p.lt⟩
theorem injK (I : Inv X pins σ H s) {k : Bool} {a : Addr} {xs ys : List V} (h : SqK k X.K H a xs) (h' : SqK k X.K H a ys) : xs = ys := by
  cases k with
  | true => exact I.tuple_inj h h'
  | false => exact I.list_inj h h'
end
/-- the sequences at a and b as they stand at each turn -/
def ItzM (k l : Bool) (K : PySem.W.Frag) (a b : Addr) : It :=
  ⟨fun n M => ∃ (p q : List V) (u v : V), SqK k K M a p ∧ SqK l K M b q ∧ p[n]? = some u ∧ q[n]? = some v,
    fun n M y M' => ∃ (C : Addr) (u v : V), y = .ref C ∧ M C = none ∧ M' = upd M C (.tup [u, v]) ∧ (∀ p, SqK k K M a p → p[n]? = some u) ∧ ∀ q, SqK l K M b q → q[n]? = some v,
    fun n M => ∃ p q : List V, SqK k K M a p ∧ SqK l K M b q ∧ (n = p.length ∨ n = q.length) ∧ n ≤ p.length ∧ n ≤ q.length⟩
def ZSt (k l : Bool) (z e f i j a b : Addr) (n : Nat) (h : Heap) : Prop :=
  IsZip h z e f .none ∧ IsTupOf2 h e (.ref i) (.ref j) ∧ (∃ x y, IsTupOf2 h f x y) ∧ ItK k h i a n ∧ ItK l h j b n
theorem zsep {z e f i j a b : Addr} (D : ZipApart z e f i j a b) : ZipSep2 z e f i j [i, a] [j, b] where
  TIz := D.TIz
  TOz := D.TOz
  TITO := D.TITO
  TIi1 := D.TIi1
  mem1 := by simp
  zf1 := by simp [D.i1z.symm, D.l1z.symm]
  Tf1 := by simp [D.TOi1, D.l1TO.symm]
  TIi2 := D.TIi2
  mem2 := by simp
  zf2 := by simp [D.i2z.symm, D.l2z.symm]
  Tf2 := by simp [D.TOi2, D.l2TO.symm]
  sep1_2 := by simp [D.i12, D.l2i1.symm]
  sep2_1 := by simp [D.i12.symm, D.l1i2.symm]
theorem in5 {z e f i j c : Addr} (h : c ∈ [z, e, f, i, j]) : c = z ∨ c = e ∨ c = f ∨ c = i ∨ c = j := by simpa using h
theorem turn_zipM {P : Program} {w : World} {K : PySem.W.Frag} {elts : List Expr} {kk : Nat} {tpos : Pos} {k l : Bool} {a b z e f i j : Addr} (D : ZipApart z e f i j a b) :
    Turn P w K (.Tuple elts kk tpos) (ItzM k l K a b) [z, e, f, i, j] z (ZSt k l z e f i j a b) where
  mem := by simp
  obj := by
    intro n h S c hc
    obtain ⟨S1, S2, ⟨x, y, S3⟩, S4, S5⟩ := S
    rcases in5 hc with rfl | rfl | rfl | rfl | rfl
    · exact ⟨_, S1, fun v q => nomatch q⟩
    · exact ⟨_, S2, fun v q => nomatch q⟩
    · exact ⟨_, S3, fun v q => nomatch q⟩
    · exact S4.ob
    · exact S5.ob
  keep := by
    intro n h h' S q
    obtain ⟨S1, S2, ⟨x, y, S3⟩, S4, S5⟩ := S
    exact ⟨q _ (by simp) _ S1, q _ (by simp) _ S2, ⟨x, y, q _ (by simp) _ S3⟩, S4.to (q _ (by simp)), S5.to (q _ (by simp))⟩
  item := by
    intro X hP hw hK hc n pins s σ M E I fr S go
    subst hP hw hK
    obtain ⟨S1, S2, ⟨x0, y0, S3⟩, S4, S5⟩ := S
    obtain ⟨p, q, u, v, Lp, Lq, eu, ev⟩ := go
    obtain ⟨is, rp, hp, _⟩ := readK I Lp
    obtain ⟨js, rq, hq, _⟩ := readK I Lq
    have lp : n < is.toArray.size := by
      have := (List.getElem?_eq_some_iff.mp eu).1
      have e := rp.length
      rw [List.size_toArray]; omega
    have lq : n < js.toArray.size := by
      have := (List.getElem?_eq_some_iff.mp ev).1
      have e := rq.length
      rw [List.size_toArray]; omega
    have zl : z < s.heap.objs.size := Heap.lt_size S1
    have hd1 : X.A.in1.handled = none := I.ok.hd hc
    refine wpAny_pyNext_zipD2_item (zsep D) (drawK hd1 k i a D.l1i1 is.toArray) (drawK hd1 l j b D.l2i2 js.toArray) S1 S2 S3 ⟨S4, hp⟩ ⟨S5, hq⟩ lp lq ?_
    intro u' v' g tk Pu Pv z2 f2 s4 s5 hT sz kp
    obtain ⟨w1, hw1, r1⟩ := rp.get eu
    obtain ⟨w2, hw2, r2⟩ := rq.get ev
    obtain rfl : u' = w1 := by
      have h1 : is[n]? = some u' := by simpa using Pu
      rw [hw1] at h1; exact (Option.some.inj h1).symm
    obtain rfl : v' = w2 := by
      have h1 : js[n]? = some v' := by simpa using Pv
      rw [hw2] at h1; exact (Option.some.inj h1).symm
    refine ⟨_, rfl, wpAny_letOwnedTupleGo_zip (s := { s with heap := g, toks := tk }) z2 fun g' z3 sb => ?_⟩
    have nz : s.heap.objs.size ≠ z := Nat.ne_of_gt zl
    have hT' : g'.get? s.heap.objs.size = some { cls := .type "tuple", data := .seq #[u', v'] } := (sb.2 _ nz).trans hT
    have ok : ObjOk X.prog X.w (upd M s.heap.objs.size (.tup [u, v])) g' s.heap.objs.size (.tup [u, v]) :=
      ⟨(by show 2 ≤ sizeLine; decide), [u', v'], .cons r1 (.cons r2 .nil), _, hT', rfl, _, rfl⟩
    have J : Inv X pins σ (upd M s.heap.objs.size (.tup [u, v])) { s with heap := g', toks := tk } := by
      refine I.turnedNew (t' := tk) (ch := [z, e, f, i, j]) (fun c o hb q => ?_) fr (Nat.le_refl _) ok
      have nb : c ≠ z ∧ c ≠ e ∧ c ≠ f ∧ c ≠ i ∧ c ≠ j := by simpa using hb
      exact (sb.2 c nb.1).trans (kp c o nb.1 nb.2.2.1 nb.2.2.2.1 nb.2.2.2.2 q)
    refine ⟨.ref s.heap.objs.size, _, J, rfl, ⟨_, u, v, rfl, I.hok.fresh (Nat.le_refl _), rfl, fun p' hp' => ?_, fun q' hq' => ?_⟩, ?_, fun c hcm => ?_⟩
    · rw [injK I hp' Lp]; exact eu
    · rw [injK I hq' Lq]; exact ev
    · refine ⟨z3, (sb.2 _ D.TIz).trans (kp _ _ D.TIz D.TITO D.TIi1 D.TIi2 S2), ⟨_, _, (sb.2 _ D.TOz).trans f2⟩, ?_, ?_⟩
      · exact s4.1.to fun o q => (sb.2 _ D.i1z).trans q
      · exact s5.1.to fun o q => (sb.2 _ D.i2z).trans q
    · have lt : c < s.heap.objs.size := by
        rcases in5 hcm with rfl | rfl | rfl | rfl | rfl
        · exact zl
        · exact Heap.lt_size S2
        · exact Heap.lt_size S3
        · obtain ⟨o, q, _⟩ := S4.ob; exact Heap.lt_size q
        · obtain ⟨o, q, _⟩ := S5.ob; exact Heap.lt_size q
      rw [upd_ne (Nat.ne_of_lt lt)]
      exact (fr c hcm).1
  done := by
    intro X hP hw hK hc n pins s σ M E I fr S stop
    subst hP hw hK
    obtain ⟨S1, S2, ⟨x0, y0, S3⟩, S4, S5⟩ := S
    obtain ⟨p, q, Lp, Lq, en, n1, n2⟩ := stop
    obtain ⟨is, rp, hp, _⟩ := readK I Lp
    obtain ⟨js, rq, hq, _⟩ := readK I Lq
    have ep := rp.length
    have eq := rq.length
    have hd1 : X.A.in1.handled = none := I.ok.hd hc
    refine wpAny_pyNext_zipD2_end (zsep D) (drawK hd1 k i a D.l1i1 is.toArray) (drawK hd1 l j b D.l2i2 js.toArray) S1 S2 S3 ⟨S4, hp⟩ ⟨S5, hq⟩ (by rw [List.size_toArray]; omega) (by rw [List.size_toArray]; omega) (by rw [List.size_toArray, List.size_toArray]; omega) ?_
    intro g tk kp
    refine ⟨rfl, I.turnedL (t' := tk) (ch := [z, e, f, i, j]) (fun c o hb q => ?_) fr⟩
    have nb : c ≠ z ∧ c ≠ e ∧ c ≠ f ∧ c ≠ i ∧ c ≠ j := by simpa using hb
    exact kp c o nb.1 nb.2.2.1 nb.2.2.2.1 nb.2.2.2.2 q
  self := fun A n s Q E S h => wpAny_pyIter_zip S.1 h
theorem beginK (k : Bool) (a : Addr) (its : Array Value) : ∃ o, Begins (.ref a) o (fun h => HeK k h a its) ∧ ∀ (h : Heap) (it : Addr), h.get? it = some o → ItK k h it a 0 := by
  cases k with
  | true => exact ⟨_, begins_tuple a its, fun h it e => ⟨_, e, rfl, rfl⟩⟩
  | false => exact ⟨_, begins_list a its, fun h it e => ⟨_, e, rfl, rfl⟩⟩
def iZipM (K : PySem.W.Frag) (ta : TA) : TI := fun σ M R => ta σ M fun vs M1 => ∃ (k l : Bool) (a b : Addr) (p q : List V), vs = [.ref a, .ref b] ∧ SqK k K M1 a p ∧ SqK l K M1 b q ∧ R (ItzM k l K a b) M1
theorem pi_zipM {X : Cx} {e e2 : Expr} {ta : TA} {p pos tpos : Pos} {elts : List Expr} {kk : Nat} (hg : Gl X "zip") (hm : X.mg "zip" = none) (ha : PA X [e, e2] ta)
    (hs : starEach [e, e2] X.env = (false, eval e X.env) :: starEach [e2] X.env := by rfl) (hpl : (backTo pos (starEach [e2] X.env)).any (·.1) = false := by rfl) :
    PI X (.Tuple elts kk tpos) (.Call (.Name "zip" p) [e, e2] [] pos) (iZipM X.K ta) := by
  refine ⟨fun pins s σ M R I h => Call_ (ld_blt I hg hm PyProof.Rows.boot_zip (PyProof.Rows.callWith_type1 (thn (ha.run pos pins s σ M _ I h) fun us s1 hh => ?_) hs hpl))⟩
  obtain ⟨vs, M1, I1, r1, k, l, a, b, xs, ys, ev, Lx, Ly, q⟩ := hh
  subst ev
  obtain ⟨u1, u2, rfl, e1, e2⟩ := vals2 r1
  cases (show u1 = Value.ref a from e1)
  cases (show u2 = Value.ref b from e2)
  obtain ⟨is, rp, hp, la⟩ := readK I1 Lx
  obtain ⟨js, rq, hq, lb⟩ := readK I1 Ly
  obtain ⟨o1, B1, t1⟩ := beginK k a is.toArray
  obtain ⟨o2, B2, t2⟩ := beginK l b js.toArray
  refine zip_begins2 B1 B2 hp hq fun g z1 z2 z3 g1 g2 sz kp => wpAny_pyIter_zip z1 ?_
  have J : Inv X pins σ M1 { s1 with heap := g } := I1.kept (t' := s1.toks) kp
  refine ⟨s1.heap.objs.size + 4, [s1.heap.objs.size + 4, s1.heap.objs.size + 2, s1.heap.objs.size + 3, s1.heap.objs.size, s1.heap.objs.size + 1], _, _, M1, rfl, J, turn_zipM (PySem.W.ktu_apart s1.heap.objs.size a b la lb), ⟨z1, z2, ⟨_, _, z3⟩, t1 _ _ g1, t2 _ _ g2⟩, fun c hcm => ?_, q⟩
  have le : s1.heap.objs.size ≤ c := by
    rcases in5 hcm with rfl | rfl | rfl | rfl | rfl <;> first | exact Nat.le_add_right _ _ | exact Nat.le_refl _
  exact I1.fpOk le (I1.hok.fresh le)
/-- a loop over zip of two sequences of one length -/
theorem for_zipM {k l : Bool} {K : PySem.W.Frag} {a b : Addr} {p q : List V} {g : TG} {tb : TS} {D : Ends} {σ : L2.St} {M : Hp} (hl : p.length = q.length) (Pv : Nat → L2.St → Hp → Prop) (h0 : Pv 0 σ M) (hq : ∀ n σ M, Pv n σ M → SqK k K M a p ∧ SqK l K M b q)
    (hs : ∀ (n : Nat) (u v : V) (C : Addr) (σ : L2.St) (M : Hp), p[n]? = some u → q[n]? = some v → Pv n σ M → M C = none → g (.ref C) σ (upd M C (.tup [u, v])) fun σ2 M2 => tb { D with nx := Pv (n + 1), ct := Pv (n + 1), bk := D.nx } σ2 M2) (hd : ∀ σ M, Pv p.length σ M → D.nx σ M) :
    ∃ W : Nat → Nat → L2.St → Hp → Prop, (∃ m, W 0 m σ M) ∧ ∀ n m σ M, W n m σ M →
      ((ItzM k l K a b).stop n M ∧ D.nx σ M) ∨ ((ItzM k l K a b).go n M ∧ ∃ N : L2.St → Hp → Prop, (∀ σ' M', N σ' M' → ∃ m', m' < m ∧ W (n + 1) m' σ' M') ∧ ∀ y M', (ItzM k l K a b).yld n M y M' → g y σ M' fun σ2 M2 => tb { D with nx := N, ct := N, bk := D.nx } σ2 M2) := by
  refine ⟨fun n m σ M => m + n = p.length ∧ Pv n σ M, ⟨p.length, by simp, h0⟩, ?_⟩
  rintro n m σ M ⟨em, pv⟩
  obtain ⟨Lp, Lq⟩ := hq n σ M pv
  by_cases c : n < p.length
  · have eu : p[n]? = some p[n] := List.getElem?_eq_getElem c
    have ev : q[n]? = some (q[n]'(by omega)) := List.getElem?_eq_getElem (by omega)
    refine .inr ⟨⟨p, q, _, _, Lp, Lq, eu, ev⟩, Pv (n + 1), fun σ' M' pv' => ⟨m - 1, by omega, by omega, pv'⟩, fun y M' hy => ?_⟩
    obtain ⟨C, u, v, rfl, nC, rfl, f1, f2⟩ := hy
    exact hs n u v C σ M (f1 p Lp) (f2 q Lq) pv nC
  · have e : n = p.length := by omega
    subst e
    exact .inl ⟨⟨p, q, Lp, Lq, .inl rfl, Nat.le_refl _, by omega⟩, hd σ M pv⟩
end My
namespace My
/-! ### fractions -/
def gI (a b : Int) : Int := ((Nat.gcd a.natAbs b.natAbs : Nat) : Int)
def dv (a b : Int) : Int := if b > 0 then gI a b else -gI a b
def low (a b : Int) : Int × Int := (a.fdiv (dv a b), b.fdiv (dv a b))
theorem gI_pos {a b : Int} (h : b ≠ 0) : 0 < gI a b := by
  unfold gI
  have : 0 < Nat.gcd a.natAbs b.natAbs := Nat.gcd_pos_of_pos_right _ (by omega)
  omega
theorem dv_ne {a b : Int} (h : b ≠ 0) : dv a b ≠ 0 := by
  have := gI_pos (a := a) h
  unfold dv
  split <;> omega
theorem dv_abs (a b : Int) : (dv a b).natAbs = Nat.gcd a.natAbs b.natAbs := by
  unfold dv gI
  split <;> simp
theorem dv_le {a b : Int} (h : b ≠ 0) : (dv a b).natAbs ≤ b.natAbs := by
  rw [dv_abs]
  exact Nat.gcd_le_right _ (by omega)
theorem fdiv_mul' {d x : Int} (h : d ≠ 0) : (d * x).fdiv d = x := Int.mul_fdiv_cancel_left x h
/-- what low gives -/
theorem low_char {a b : Int} (h : b ≠ 0) : ∃ d x y : Int, d ≠ 0 ∧ a = d * x ∧ b = d * y ∧ 0 < y ∧ Nat.gcd x.natAbs y.natAbs = 1 ∧ low a b = (x, y) := by
  have hd := dv_ne (a := a) h
  have e := dv_abs a b
  have ha : dv a b ∣ a := Int.natAbs_dvd_natAbs.mp (by rw [e]; exact Nat.gcd_dvd_left _ _)
  have hb : dv a b ∣ b := Int.natAbs_dvd_natAbs.mp (by rw [e]; exact Nat.gcd_dvd_right _ _)
  obtain ⟨x, hx⟩ := ha
  obtain ⟨y, hy⟩ := hb
  refine ⟨dv a b, x, y, hd, hx, hy, ?_, ?_, ?_⟩
  · have g := gI_pos (a := a) h
    by_cases c : b > 0
    · have ed : dv a b = gI a b := by unfold dv; rw [if_pos c]
      rw [ed] at hy
      apply Int.pos_of_mul_pos_right (a := gI a b) (b := y) _ (by omega) |> fun z => z
      omega
    · have ed : dv a b = -gI a b := by unfold dv; rw [if_neg c]
      rw [ed] at hy
      have : 0 < gI a b * y := by
        have e3 := hy
        rw [Int.neg_mul] at e3
        have e2 : gI a b * y = -b := (Int.neg_eq_comm.mp e3.symm).symm
        omega
      exact Int.pos_of_mul_pos_right this (by omega)
  · have h0 : 0 < Nat.gcd a.natAbs b.natAbs := Nat.gcd_pos_of_pos_right _ (by omega)
    have e1 : Nat.gcd a.natAbs b.natAbs = Nat.gcd a.natAbs b.natAbs * Nat.gcd x.natAbs y.natAbs := by
      have ea : a.natAbs = (dv a b).natAbs * x.natAbs := by rw [← Int.natAbs_mul, ← hx]
      have eb : b.natAbs = (dv a b).natAbs * y.natAbs := by rw [← Int.natAbs_mul, ← hy]
      rw [e] at ea eb
      have e3 : Nat.gcd (Nat.gcd a.natAbs b.natAbs * x.natAbs) (Nat.gcd a.natAbs b.natAbs * y.natAbs) = Nat.gcd a.natAbs b.natAbs * Nat.gcd x.natAbs y.natAbs := Nat.gcd_mul_left _ _ _
      rw [← ea, ← eb] at e3
      exact e3
    have e2 : Nat.gcd a.natAbs b.natAbs * 1 = Nat.gcd a.natAbs b.natAbs * Nat.gcd x.natAbs y.natAbs := by omega
    exact (Nat.eq_of_mul_eq_mul_left h0 e2).symm
  · unfold low
    have h1 : a.fdiv (dv a b) = x := by
      have := fdiv_mul' (d := dv a b) (x := x) hd
      rw [← hx] at this; exact this
    have h2 : b.fdiv (dv a b) = y := by
      have := fdiv_mul' (d := dv a b) (x := y) hd
      rw [← hy] at this; exact this
    rw [h1, h2]
theorem low_pos {a b : Int} (h : b ≠ 0) : 0 < (low a b).2 := by
  obtain ⟨d, x, y, _, _, _, p, _, e⟩ := low_char (a := a) h
  rw [e]; exact p
theorem low_cop {a b : Int} (h : b ≠ 0) : Nat.gcd (low a b).1.natAbs (low a b).2.natAbs = 1 := by
  obtain ⟨d, x, y, _, _, _, _, p, e⟩ := low_char (a := a) h
  rw [e]; exact p
theorem low_mul {a b : Int} (h : b ≠ 0) : (low a b).1 * b = a * (low a b).2 := by
  obtain ⟨d, x, y, _, ea, eb, _, _, e⟩ := low_char (a := a) h
  rw [e, ea, eb]
  show x * (d * y) = d * x * y
  rw [← Int.mul_assoc, Int.mul_comm x d]
theorem one_le_abs {d : Int} (h : d ≠ 0) : 1 ≤ d.natAbs := by omega
theorem low_le1 {a b : Int} (h : b ≠ 0) : (low a b).1.natAbs ≤ a.natAbs := by
  obtain ⟨d, x, y, hd, ea, _, _, _, e⟩ := low_char (a := a) h
  rw [e, ea, Int.natAbs_mul]
  exact Nat.le_mul_of_pos_left _ (one_le_abs hd)
theorem low_le2 {a b : Int} (h : b ≠ 0) : (low a b).2.natAbs ≤ b.natAbs := by
  obtain ⟨d, x, y, hd, _, eb, _, _, e⟩ := low_char (a := a) h
  rw [e]
  conv => rhs; rw [eb, Int.natAbs_mul]
  exact Nat.le_mul_of_pos_left _ (one_le_abs hd)
theorem cop_eq {x y x' y' : Int} (py : 0 < y) (py' : 0 < y') (c : Nat.gcd x.natAbs y.natAbs = 1) (c' : Nat.gcd x'.natAbs y'.natAbs = 1) (e : x * y' = x' * y) : x = x' ∧ y = y' := by
  have en : x.natAbs * y'.natAbs = x'.natAbs * y.natAbs := by rw [← Int.natAbs_mul, ← Int.natAbs_mul, e]
  have d1 : y.natAbs ∣ y'.natAbs := by
    have : y.natAbs ∣ x.natAbs * y'.natAbs := ⟨x'.natAbs, by rw [en, Nat.mul_comm]⟩
    exact Nat.Coprime.dvd_of_dvd_mul_left (k := y.natAbs) (m := x.natAbs) (by rw [Nat.coprime_comm]; exact c) this
  have d2 : y'.natAbs ∣ y.natAbs := by
    have : y'.natAbs ∣ x'.natAbs * y.natAbs := ⟨x.natAbs, by rw [← en, Nat.mul_comm]⟩
    exact Nat.Coprime.dvd_of_dvd_mul_left (k := y'.natAbs) (m := x'.natAbs) (by rw [Nat.coprime_comm]; exact c') this
  have ey : y = y' := by have := Nat.dvd_antisymm d1 d2; omega
  subst ey
  exact ⟨Int.eq_of_mul_eq_mul_right (by omega) e, rfl⟩
theorem low_eq {a b c d : Int} (hb : b ≠ 0) (hd : d ≠ 0) (e : a * d = c * b) : low a b = low c d := by
  obtain ⟨p, x, y, hp, ea, eb, py, c1, e1⟩ := low_char (a := a) hb
  obtain ⟨q, x', y', hq, ec, ed, py', c2, e2⟩ := low_char (a := c) hd
  have h : x * y' = x' * y := by
    have h0 : (p * q) * (x * y') = (p * q) * (x' * y) := by
      have l : (p * q) * (x * y') = a * d := by rw [ea, ed]; ac_rfl
      have r : (p * q) * (x' * y) = c * b := by rw [ec, eb]; ac_rfl
      rw [l, r, e]
    exact Int.eq_of_mul_eq_mul_left (Int.mul_ne_zero hp hq) h0
  obtain ⟨h1, h2⟩ := cop_eq py py' c1 c2 h
  rw [e1, e2, h1, h2]
theorem low_self {b : Int} (h : b ≠ 0) : low b b = (1, 1) := by
  have e : low b b = low 1 1 := low_eq h (by decide) (by omega)
  rw [e]; decide
end My
namespace My
open PySem PySem.Spec PyProof.Rows L2
section
variable {P : Program} {w : World} {K : PySem.W.Frag} {mg : Str → Option Value} {base : Heap}
theorem max1 {n : Int} (h : 1 ≤ n) : (if n > 1 then n else 1) = n := by
  by_cases e : n > 1
  · rw [if_pos e]
  · rw [if_neg e]; omega
/-- the number of cells that are left -/
def cellsLeft (c : Addr) (H : Hp) : Nat := match H c with
  | some (.lst xs) => xs.length
  | _ => 0
theorem ok_pick (T : Tx K mg) : FnOk P w K mg base CX0 1 T.a_law_pick T.fd_law_pick ["_law_source_here", "_law_many"] spPick := by
  refine T.F_law_pick.ok sc_law_pick (fun vs H Q E h => ?_) (fun cdv A outer st H vs Q E hr h => ?_)
  · obtain ⟨s, c, n, rfl, _⟩ := h
    rfl
  obtain ⟨s, c, n, rfl, hS, h1, h2, k⟩ := h
  have hu := hu_of hr
  refine ⟨_, ((pss_cons (ps_while PassesOwn.never (PW.pt (pw_and (pt_cmpR op_gt (pv 1) pe_int (nomark _)) (pw_and (pt_cmpR op_lt (pe_dget hu (pv 0) pe_str (fun _ _ => rfl)) pe_int (nomark _)) (pw_and1 (pt_cmpR op_gt (pe_callB call_len_seq (by rfl) T.n_len (by decide +kernel) (pa_cons (pe_dget hu (pv 0) pe_str (fun _ _ => rfl)) pa_nil)) pe_int (nomark _))))))
        (pss_one (ps_dput hu (pv 0) pe_str (pe_bm0 PySem.F.plainAttrs_list PySem.F.slot_list_pop PySem.F.type_list_pop mt_pop (pe_dget hu (pv 0) pe_str (fun _ _ => rfl))) rfl)))
      (pss_cons (ps_set (i := 2) sc_law_pick.nd rfl (Or.inl rfl) (pe_dget hu (pv 0) pe_str (fun _ _ => rfl)))
      (pss_cons (ps_if (PW.pt (pw_or (pt_cmpR op_lt (pv 1) pe_int (nomark _)) (pw_or1 (pt_cmpR op_gt (pv 2) pe_int (nomark _)))))
        (pss_cons (ps_dput hu (pv 0) pe_str (pe_op op_fdiv (pv 2) (pe_callB (call_max2 rfl) (by rfl) T.n_max (by decide +kernel) (pa_cons pe_int (pa_cons (pv 1) pa_nil)))) rfl)
      (pss_one (ps_ret (pe_op op_mod (pe_callTy call_int1 (by rfl) T.n_int (by decide +kernel) (pa_cons (pv 2) pa_nil)) (pe_callB (call_max2 rfl) (by rfl) T.n_max (by decide +kernel) (pa_cons pe_int (pa_cons (pv 1) pa_nil)))))))
        pss_nil)
      (pss_cons (ps_dput hu (pv 0) pe_str (pe_op op_add (pe_dget hu (pv 0) pe_str (fun _ _ => rfl)) pe_int) rfl)
      (pss_cons (ps_set (i := 3) sc_law_pick.nd rfl (Or.inl rfl) (pe_op op_mod (pe_callTy call_int1 (by rfl) T.n_int (by decide +kernel) (pa_cons (pe_op op_add (pe_dget hu (pv 0) pe_str (fun _ _ => rfl)) (pe_op op_mul (pe_dget hu (pv 0) pe_str (fun _ _ => rfl)) pe_int)) pa_nil)) pe_int))
      (pss_cons (ps_set (i := 3) sc_law_pick.nd rfl (Or.inl rfl) (pe_op op_mod (pe_callTy call_int1 (by rfl) T.n_int (by decide +kernel) (pa_cons (pe_op op_add (pe_op op_mul (pv 3) (pv 3)) (pe_op op_mul (pe_dget hu (pv 0) pe_str (fun _ _ => rfl)) pe_int)) pa_nil)) pe_int))
      (pss_cons (ps_dput hu (pv 0) pe_str (pv 3) rfl)
      (pss_one (ps_ret (pe_op op_mod (pe_callTy call_int1 (by rfl) T.n_int (by decide +kernel) (pa_cons (pe_op op_fdiv (pv 3) pe_int) pa_nil)) (pv 1)))))))))))), ?_⟩
  -- the while
  refine while_b (fun σ H' => σ = [some (.ref s), some (.int n), none, none] ∧ Go s c H H') (fun _ H' => cellsLeft c H') ⟨rfl, Go.refl hS⟩ ?_
  rintro σ H1 ⟨rfl, g⟩
  obtain ⟨l, m, t, ns, S⟩ := id g.src
  have gs : ∀ (x : Str) (v : V), valV (srcD c l m t) (Sum.inr x) = some v → DGet H1 s (.str x) (some v) := fun x v e => by
    rw [← e]
    exact DGet.k (k := Sum.inr x) S.hs
  by_cases hw : 1 < n ∧ l < 2 ∧ ns ≠ []
  · obtain ⟨w1, w2, w3⟩ := hw
    refine ⟨true, fun Q' q => ?_, ?_⟩
    · refine ⟨_, rfl, _, _, rfl, rfl, _, rfl, iteD (fun _ => ?_) (fun z => absurd w1 z)⟩
      refine ⟨_, rfl, s, _, rfl, gs "left" _ (get_left _ _ _ _), _, _, rfl, rfl, _, rfl, iteD (fun _ => ?_) (fun z => absurd w2 z)⟩
      refine ⟨_, rfl, s, _, rfl, gs "cells" _ (get_cells _ _ _ _), c, _, rfl, .inl (SqL.of S.hc), _, _, rfl, rfl, _, rfl, ?_⟩
      have e : decide ((0 : Int) < (((ns.map V.int).length : Nat) : Int)) = true := by
        rw [List.length_map]
        cases ns with
        | nil => exact absurd rfl w3
        | cons a r => exact decide_eq_true (by rw [List.length_cons]; omega)
      rw [e]
      exact q
    · refine iteT ?_
      have hlast : ∃ (y : Int), (ns.map V.int)[(ns.map V.int).length - 1]? = some (.int y) ∧ 0 ≤ y := by
        have hp : 0 < ns.length := List.length_pos_iff.mpr w3
        refine ⟨ns[ns.length - 1], ?_, S.n0 _ (List.getElem_mem _)⟩
        rw [List.length_map, List.getElem?_map, List.getElem?_eq_getElem (by omega)]
        rfl
      obtain ⟨y, ey, y0⟩ := hlast
      have hsc : s ≠ c := S.ne
      refine ⟨_, rfl, s, _, rfl, gs "cells" _ (get_cells _ _ _ _), .inl ⟨rfl, _, SqL.of S.hc⟩, c, _, _, rfl, rfl, S.hc, ey, ?_⟩
      refine ⟨_, rfl, s, _, rfl, DPut.k (k := Sum.inr "left") (kvs := srcD c l m t) (by rw [upd_ne hsc]; exact S.hs) (by show 4 < sizeLine; decide), ?_⟩
      rw [put_left]
      have S2 : SrcL (upd (upd H1 c (.lst (ns.map V.int).dropLast)) s (.dK (srcD c y m t))) s c y m t ns.dropLast :=
        ⟨upd_same, by rw [upd_ne hsc.symm, upd_same, List.map_dropLast], y0, S.m0, S.m1, S.t0, fun n h => S.n0 n (List.dropLast_subset _ h), by rw [List.length_dropLast]; have := S.len; omega⟩
      refine ⟨⟨rfl, ⟨fun a o h1 h2 e => ?_, _, _, _, _, S2⟩⟩, ?_⟩
      · rw [upd_ne h1, upd_ne h2]
        exact g.keep a o h1 h2 e
      · show cellsLeft c _ < cellsLeft c _
        unfold cellsLeft
        rw [S2.hc, S.hc]
        show (ns.dropLast.map V.int).length < (ns.map V.int).length
        rw [List.length_map, List.length_map, List.length_dropLast]
        have hp : 0 < ns.length := List.length_pos_iff.mpr w3
        omega
  · refine ⟨false, fun Q' q => ?_, iteF ?_⟩
    · refine ⟨_, rfl, _, _, rfl, rfl, _, rfl, iteD (fun w1 => ?_) (fun _ => q)⟩
      refine ⟨_, rfl, s, _, rfl, gs "left" _ (get_left _ _ _ _), _, _, rfl, rfl, _, rfl, iteD (fun w2 => ?_) (fun _ => q)⟩
      refine ⟨_, rfl, s, _, rfl, gs "cells" _ (get_cells _ _ _ _), c, _, rfl, .inl (SqL.of S.hc), _, _, rfl, rfl, _, rfl, ?_⟩
      have e0 : ns = [] := by
        cases e : ns with
        | nil => rfl
        | cons a r => exact absurd ⟨w1, w2, by rw [e]; exact List.cons_ne_nil _ _⟩ hw
      have e : decide ((0 : Int) < (((ns.map V.int).length : Nat) : Int)) = false := by
        rw [e0]
        rfl
      rw [e]
      exact q
    -- behind the while
    refine ⟨_, rfl, s, _, rfl, gs "left" _ (get_left _ _ _ _), ?_⟩
    have put : ∀ (l' m' t' : Int), 0 ≤ l' → 0 ≤ m' → m' < 4294967296 → 0 ≤ t' → ∀ H2, Go s c H H2 → (∀ b, b ≠ s → H2 b = H1 b) → SrcL (upd H2 s (.dK (srcD c l' m' t'))) s c l' m' t' ns ∧ Go s c H (upd H2 s (.dK (srcD c l' m' t'))) := fun l' m' t' a1 a2 a3 a4 H2 g2 e2 => by
      have S3 : SrcL (upd H2 s (.dK (srcD c l' m' t'))) s c l' m' t' ns := ⟨upd_same, by rw [upd_ne S.ne.symm, e2 _ S.ne.symm]; exact S.hc, a1, a2, a3, a4, S.n0, S.len⟩
      refine ⟨S3, fun a o h1 h2 e => ?_, _, _, _, _, S3⟩
      rw [upd_ne h1]
      exact g2.keep a o h1 h2 e
    have sz : (srcD c l m t).length < sizeLine := by show 4 < sizeLine; decide
    -- if many < 2 or left > 1
    refine ⟨_, rfl, _, _, rfl, rfl, _, rfl, iteD (fun c1 => ?ga) (fun c1 => ⟨_, rfl, _, _, rfl, rfl, _, rfl, iteD (fun c2 => ?gb) (fun c2 => ?gc)⟩)⟩
    case gc =>
      -- the mixed number
      have S2 := put l m (t + 1) S.l0 S.m0 S.m1 (by have := S.t0; omega) H1 g (fun _ _ => rfl)
      refine ⟨_, rfl, s, _, rfl, gs "turn" _ (get_turn _ _ _ _), _, _, rfl, rfl, _, rfl, s, _, rfl, DPut.k (k := Sum.inr "turn") S.hs sz, ?_⟩
      rw [put_turn]
      have gs2 : ∀ (x : Str) (v : V), valV (srcD c l m (t + 1)) (Sum.inr x) = some v → DGet (upd H1 s (.dK (srcD c l m (t + 1)))) s (.str x) (some v) := fun x v e => by
        rw [← e]
        exact DGet.k (k := Sum.inr x) upd_same
      refine ⟨_, rfl, s, _, rfl, gs2 "mixed" _ (get_mixed _ _ _ _), _, rfl, s, _, rfl, gs2 "turn" _ (get_turn _ _ _ _), _, _, rfl, rfl, .inr ⟨by decide, by decide⟩, _, _, rfl, rfl, .inl ⟨_, rfl, _, _, rfl, rfl, (by show (0 : Int) < 998244353; decide), ?_⟩⟩
      generalize hm : (m + (t + 1) * 104729) % 998244353 = m1
      have hm0 : 0 ≤ m1 ∧ m1 < 998244353 := by rw [← hm]; omega
      refine ⟨_, rfl, _, rfl, _, _, rfl, rfl, .inl ⟨by omega, by omega⟩, _, rfl, s, _, rfl, gs2 "turn" _ (get_turn _ _ _ _), _, _, rfl, rfl, .inr ⟨by decide, by decide⟩, _, _, rfl, rfl, .inl ⟨_, rfl, _, _, rfl, rfl, (by show (0 : Int) < 2147483647; decide), ?_⟩⟩
      generalize hn : (m1 * m1 + (t + 1) * 17) % 2147483647 = m2
      have hn0 : 0 ≤ m2 ∧ m2 < 2147483647 := by rw [← hn]; omega
      refine ⟨_, rfl, _, rfl, s, _, rfl, DPut.k (k := Sum.inr "mixed") S2.1.hs (by show 4 < sizeLine; decide), ?_⟩
      rw [put_mixed]
      have S3 := put l m2 (t + 1) S.l0 hn0.1 (by omega) (by have := S.t0; omega) _ S2.2 (fun b hb => upd_ne hb)
      refine ⟨_, rfl, _, _, rfl, rfl, ⟨by decide, by decide⟩, .inl ⟨_, rfl, _, rfl, _, _, rfl, rfl, (by omega : (0 : Int) < n), ?_⟩⟩
      subst hn
      subst hm
      exact k _ _ (Int.emod_nonneg _ (by omega)) (Int.emod_lt_of_pos _ (by omega)) S3.2
    all_goals
      have S2 := put (l / n) m t (Int.ediv_nonneg S.l0 (by omega)) S.m0 S.m1 S.t0 H1 g (fun _ _ => rfl)
      refine ⟨_, rfl, _, rfl, _, _, rfl, _, _, rfl, rfl, (by rw [max1 h1]; exact ⟨by omega, by omega⟩), _, rfl, s, _, rfl, DPut.k (k := Sum.inr "left") S.hs sz, ?_⟩
      rw [put_left, max1 h1]
      refine ⟨_, rfl, .inl ⟨_, rfl, _, rfl, _, _, rfl, _, _, rfl, rfl, (by rw [max1 h1]; omega : (0 : Int) < if n > 1 then n else 1), ?_⟩⟩
      rw [max1 h1]
      exact k _ _ (Int.emod_nonneg _ (by omega)) (Int.emod_lt_of_pos _ (by omega)) S2.2
theorem ok_of (T : Tx K mg) : FnOk P w K mg base CX0 2 T.a_law_of T.fd_law_of ["_law_source_here", "_law_some"] (spOf K) := by
  refine T.F_law_of.ok sc_law_of (fun vs H Q E h => ?_) (fun cdv A outer st H vs Q E hr h => ?_)
  · obtain ⟨s, c, a, xs, rfl, _⟩ := h
    rfl
  obtain ⟨s, c, a, xs, rfl, hS, ha, nac, h1, h2, k⟩ := h
  have G_law_pick : FnOk P w K mg base CX0 1 T.a_law_pick T.fd_law_pick ["_law_source_here", "_law_many"] spPick := ok_pick T
  have hr_law_pick : Room 1 _ := hr
  refine ⟨_, ((pss_one (ps_ret (pe_ix ix_list (pv 1) (pe_call G_law_pick hr_law_pick rfl T.m_law_pick T.F_law_pick.kp T.b_law_pick .nil pass0 (pa_cons (pv 0) (pa_cons (pe_callB call_len_seq (by rfl) T.n_len (by decide +kernel) (pa_cons (pv 1) pa_nil)) pa_nil))) (fun _ _ => rfl))))), ?_⟩
  refine ⟨_, rfl, _, rfl, _, rfl, a, _, rfl, .inl (SqL.of ha), s, c, _, rfl, hS, by omega, by omega, fun i H' i0 i1 g => ?_⟩
  obtain ⟨j, rfl⟩ : ∃ j : Nat, i = (j : Int) := ⟨i.toNat, by omega⟩
  have hj : j < xs.length := by omega
  exact ⟨a, xs, _, xs[j], rfl, rfl, SqL.of (g.lst hS ha nac), atI_nat (List.getElem?_eq_getElem hj), k j _ H' (List.getElem?_eq_getElem hj) g⟩
theorem ok_source (T : Tx K mg) : FnOk P w K mg base CX0 1 T.a_law_source T.fd_law_source ["_law_script"] (spSource K) := by
  refine T.F_law_source.ok sc_law_source (fun vs H Q E h => ?_) (fun cdv A outer st H vs Q E hr h => ?_)
  · obtain ⟨a, ns, rfl, _⟩ := h
    rfl
  obtain ⟨a, ns, rfl, hS, hl, k⟩ := h
  refine ⟨_, ((pss_cons (ps_set (i := 1) sc_law_source.nd rfl (Or.inl rfl) pe_int)
      (pss_cons (ps_for PassesOwn.never rfl (pi_list (pv 0)) (pg_name (i := 2) sc_law_source.nd rfl (Or.inl rfl))
        (pss_one (ps_set (i := 1) sc_law_source.nd rfl (Or.inl rfl) (pe_op op_mod (pe_callTy call_int1 (by rfl) T.n_int (by decide +kernel) (pa_cons (pe_op op_add (pe_op op_add (pe_op op_mul (pv 1) pe_int) (pe_op op_mul (pv 2) pe_int)) pe_int) pa_nil)) pe_int))))
      (pss_one (ps_ret (pe_disp (pps_cons pe_str (pe_revL (pe_lc (own := [("_law_cell", 2)]) (by rfl) sc_law_source.nd (pi_list (pv 0)) (blkOk_by (own := [("_law_cell", 2)]) (N := ["_law_script", "_law_mixed", "_law_cell"]) (sc := defScope s_law_source) (by decide +kernel)) (fun _ _ _ _ _ => pg_name (i := 2) sc_law_source.nd rfl (Or.inl rfl)) (fun _ _ _ _ _ => pts_nil) (fun _ _ _ _ _ => (pe_callB call_abs (by rfl) T.n_abs (by decide +kernel) (pa_cons (pv 2) pa_nil))))) (pps_cons pe_str pe_int (pps_cons pe_str (pv 1) (pps_cons pe_str pe_int pps_nil)))) (by rfl) (by rfl) (fun z => by cases z) (by decide))))))), ?_⟩
  refine ⟨_, rfl, a, rfl, ⟨_, hS⟩, for_list (K := K) (a := a) (xs := ns.map V.int) (fun i σ H' => ∃ (m : Int) (v : Option V), σ = [some (.ref a), some (.int m), v] ∧ H' = H ∧ 0 ≤ m ∧ m < 2147483629) ⟨11, none, rfl, rfl, by decide, by decide⟩ (fun i σ H' _ ⟨_, _, _, e, _⟩ => e ▸ hS) ?_ ?_⟩
  · rintro i y σ H' hi ⟨m, v, rfl, rfl, m0, m1⟩
    obtain ⟨u, rfl⟩ : ∃ u, y = V.int u := by
      rw [List.getElem?_map] at hi
      cases e : ns[i]? with
      | none => rw [e] at hi; cases hi
      | some u => rw [e] at hi; exact ⟨u, (Option.some.inj hi).symm⟩
    refine ⟨_, rfl, _, _, rfl, rfl, .inr ⟨by decide, by decide⟩, _, rfl, _, _, rfl, rfl, .inr ⟨by decide, by decide⟩, _, _, rfl, rfl, _, _, rfl, rfl, .inl ⟨_, rfl, _, _, rfl, rfl, (by show (0 : Int) < 2147483629; decide), ?_⟩⟩
    exact ⟨_, _, rfl, rfl, Int.emod_nonneg _ (by decide), Int.emod_lt_of_pos _ (by decide)⟩
  · rintro σ H' ⟨m, v, rfl, rfl, m0, m1⟩
    intro p hp
    have s0 := same_new hp (.dK [])
    refine ⟨_, rfl, a, rfl, ⟨_, s0.seq hS⟩, fun D hD => ?_⟩
    have npD : p ≠ D := ne_of_none upd_same hD
    refine lc_list (K := K) (a := a) (xs := ns.map V.int) (fun i H2 => Same (upd H' p (.dK [])) H2 ∧ H2 D = some (.lst (((ns.take i).map fun n => if n < 0 then -n else n).map V.int))) ⟨same_new hD _, upd_same⟩ (fun i H2 _ z => z.1.seq (s0.seq hS)) ?_ ?_
    · rintro i y H2 hi ⟨s1, e1⟩
      have hil : i < ns.length := by
        have q := (List.getElem?_eq_some_iff.mp hi).1
        rw [List.length_map] at q
        exact q
      have ey : y = V.int ns[i] := by
        rw [List.getElem?_map, List.getElem?_eq_getElem hil] at hi
        exact (Option.some.inj hi).symm
      subst ey
      refine ⟨rfl, ?_⟩
      refine ⟨_, rfl, _, rfl, _, e1, ?_, ?_, ?_⟩
      · rw [List.length_map, List.length_map, List.length_take]
        exact small1000 (by omega)
      · intro b o e
        rw [upd_ne (ne_of_none e hD)]
        exact s1 b o e
      · rw [upd_same, List.take_succ_eq_append_getElem hil, List.map_append, List.map_append]
        rfl
    · rintro H2 ⟨s1, e1⟩
      refine ⟨D, _, rfl, SqL.of e1, fun c hc => ?_⟩
      have ncp : p ≠ c := ne_of_none (s1 _ _ upd_same) hc
      refine ⟨_, rfl, ?_⟩
      have ep : upd H2 c (.lst ((((ns.take (ns.map V.int).length).map fun n => if n < 0 then -n else n).map V.int).reverse)) p = some (.dK []) := by
        rw [upd_ne ncp]
        exact s1 _ _ upd_same
      refine ⟨ep, srcD c 1 m 0, rfl, (by show 4 ≤ 15; decide), ?_⟩
      rw [srcD_made]
      refine k p c _ ?_ hp ?_ ?_
      · intro b o e
        have nbp : b ≠ p := ne_of_none e hp
        have e2 := s1 b o (by rw [upd_ne nbp]; exact e)
        rw [upd_ne nbp, upd_ne (ne_of_none e2 hc)]
        exact e2
      · exact s0.free (s1.free hc)
      · refine ⟨1, m, 0, ((ns.take (ns.map V.int).length).map fun n => if n < 0 then -n else n).reverse, upd_same, ?_, by decide, m0, by omega, by decide, ?_, ?_⟩
        · rw [upd_ne ncp.symm, upd_same, List.map_reverse]
        · intro n hn
          rw [List.mem_reverse, List.mem_map] at hn
          obtain ⟨q, _, rfl⟩ := hn
          split <;> omega
        · rw [List.length_reverse, List.length_map, List.length_take]
          omega
end
end My
namespace My
open PySem PySem.Spec PyProof.Rows L2
/-! ### promises -/
def pair (a b : Int) : List V := [.int a, .int b]
def Sz (n : Nat) (x : Int) : Prop := x.natAbs < 2 ^ n
theorem Sz.up {n m : Nat} {x : Int} (h : Sz n x) (l : n ≤ m) : Sz m x := Nat.lt_of_lt_of_le h (Nat.pow_le_pow_right (by decide) l)
theorem Sz.le {n : Nat} {x y : Int} (h : Sz n x) (l : y.natAbs ≤ x.natAbs) : Sz n y := Nat.lt_of_le_of_lt l h
theorem Sz.mul {n m : Nat} {x y : Int} (h : Sz n x) (g : Sz m y) : Sz (n + m) (x * y) := wide_lt h g
theorem Sz.add {n : Nat} {x y : Int} (h : Sz n x) (g : Sz n y) : Sz (n + 1) (x + y) := by
  have e : 2 ^ (n + 1) = 2 ^ n + 2 ^ n := by rw [Nat.pow_succ]; omega
  have l : (x + y).natAbs ≤ x.natAbs + y.natAbs := Int.natAbs_add_le x y
  unfold Sz at *
  omega
theorem Sz.cmul {n m : Nat} {x y : Int} (h : Sz n x) (g : Sz m y) (hn : 0 < n) (hm : 0 < m) (l : n + m ≤ 1000000) : CMulW x y := wide_mul h g hn hm l
theorem Sz.cdiv {n : Nat} {x b d : Int} (h : Sz n b) (hd : d ≠ 0) (l : d.natAbs ≤ b.natAbs) (hn : 0 < n) (h8 : n ≤ 9000) : CDivX x d :=
  ⟨hd, Nat.lt_of_lt_of_le (PySem.Flt.log2_lt_of hn (Nat.lt_of_le_of_lt l h)) h8⟩
def spLow : Sp := fun vs H Q _ => ∃ (a b : Int) (n : Nat), vs = [.int a, .int b] ∧ b ≠ 0 ∧ Sz n b ∧ 0 < n ∧ n ≤ 9000 ∧
  ∀ (p : Addr) (H' : Hp), Same H H' → H p = none → H' p = some (.tup (pair (low a b).1 (low a b).2)) → Q (.ref p) H'
def spTwo (f : Int → Int → Int → Int → Int × Int) : Sp := fun vs H Q _ => ∃ (p q : Addr) (a b c d : Int) (n m : Nat), vs = [.ref p, .ref q] ∧ H p = some (.tup (pair a b)) ∧ H q = some (.tup (pair c d)) ∧ b ≠ 0 ∧ d ≠ 0 ∧
  Sz n a ∧ Sz n b ∧ Sz m c ∧ Sz m d ∧ 0 < n ∧ 0 < m ∧ n + m ≤ 9000 ∧ ∀ (r : Addr) (H' : Hp), Same H H' → H r = none → H' r = some (.tup (pair (f a b c d).1 (f a b c d).2)) → Q (.ref r) H'
def addF (a b c d : Int) : Int × Int := low (a * d + c * b) (b * d)
def timesF (a b c d : Int) : Int × Int := low (a * c) (b * d)
section
variable {P : Program} {w : World} {K : PySem.W.Frag} {mg : Str → Option Value} {base : Heap}
theorem same2 {H : Hp} {p : Addr} {o : HO} (h : H p = none) : Same H (upd H p o) := same_new h o
theorem ok_lowest (T : Tx K mg) : FnOk P w K mg base CX0 1 T.a_lowest T.fd_lowest ["a", "b"] spLow := by
  refine T.F_lowest.ok sc_lowest (fun vs H Q E h => ?_) (fun cdv A outer st H vs Q E hr h => ?_)
  · obtain ⟨a, b, n, rfl, _⟩ := h
    rfl
  obtain ⟨a, b, n, rfl, hb, sz, n0, n9, k⟩ := h
  refine ⟨_, ((pss_cons (ps_set (i := 2) sc_lowest.nd rfl (Or.inl rfl) (pe_ifExp (pt_cmpR op_gt (pv 1) pe_int (nomark _)) (pe_callBfun cr_gcd rfl T.g_gcd (pa_cons (pv 0) (pa_cons (pv 1) pa_nil))) (pe_un un_neg (pe_callBfun cr_gcd rfl T.g_gcd (pa_cons (pv 0) (pa_cons (pv 1) pa_nil))))))
      (pss_one (ps_ret (pe_tup (pa_cons (pe_op op_fdivX (pv 0) (pv 2)) (pa_cons (pe_op op_fdivX (pv 1) (pv 2)) pa_nil))))))), ?_⟩
  have hd : CDivX a (dv a b) := sz.cdiv (dv_ne hb) (dv_le hb) n0 n9
  have hd' : CDivX b (dv a b) := hd
  refine ⟨_, rfl, _, _, rfl, rfl, _, rfl, iteD (fun c => ?_) (fun c => ?_)⟩
  · refine ⟨_, rfl, _, rfl, a, b, rfl, ?_⟩
    have e : ((Nat.gcd a.natAbs b.natAbs : Nat) : Int) = dv a b := by unfold dv gI; rw [if_pos c]
    rw [e]
    refine ⟨_, rfl, _, rfl, _, _, rfl, rfl, hd, _, rfl, _, rfl, _, _, rfl, rfl, hd', (by show 2 ≤ sizeLine; decide), fun p hp => ?_⟩
    exact k p _ (same_new hp _) hp upd_same
  · have e : -gI a b = dv a b := by unfold dv; rw [if_neg c]
    refine ⟨_, rfl, _, rfl, a, b, rfl, _, rfl, _, rfl, _, rfl, _, _, rfl, rfl, (by show CDivX a (-gI a b); rw [e]; exact hd), _, rfl, _, rfl, _, _, rfl, rfl, (by show CDivX b (-gI a b); rw [e]; exact hd'), (by show 2 ≤ sizeLine; decide), fun p hp => ?_⟩
    exact k p _ (same_new hp _) hp (upd_same.trans (by show some (HO.tup (pair (a.fdiv (-gI a b)) (b.fdiv (-gI a b)))) = _; rw [e]; rfl))
theorem at0 (a b : Int) : atI (pair a b) 0 = some (.int a) := rfl
theorem at1 (a b : Int) : atI (pair a b) 1 = some (.int b) := rfl
theorem ok_added (T : Tx K mg) : FnOk P w K mg base CX0 2 T.a_added T.fd_added ["one", "other"] (spTwo addF) := by
  refine T.F_added.ok sc_added (fun vs H Q E h => ?_) (fun cdv A outer st H vs Q E hr h => ?_)
  · obtain ⟨p, q, a, b, c, d, n, m, rfl, _⟩ := h
    rfl
  obtain ⟨p, q, a, b, c, d, n, m, rfl, hp, hq, b0, d0, sa, sb, sc, sd, n0, m0, nm, k⟩ := h
  have G_lowest : FnOk P w K mg base CX0 1 T.a_lowest T.fd_lowest ["a", "b"] spLow := ok_lowest T
  have hr_lowest : Room 1 _ := hr
  refine ⟨_, ((pss_one (ps_ret (pe_call G_lowest hr_lowest rfl T.m_lowest T.F_lowest.kp T.b_lowest .nil pass0 (pa_cons (pe_op op_add (pe_op op_mulW (pe_ix ix_tup (pv 0) pe_int (fun _ _ => rfl)) (pe_ix ix_tup (pv 1) pe_int (fun _ _ => rfl))) (pe_op op_mulW (pe_ix ix_tup (pv 1) pe_int (fun _ _ => rfl)) (pe_ix ix_tup (pv 0) pe_int (fun _ _ => rfl)))) (pa_cons (pe_op op_mulW (pe_ix ix_tup (pv 0) pe_int (fun _ _ => rfl)) (pe_ix ix_tup (pv 1) pe_int (fun _ _ => rfl))) pa_nil)))))), ?_⟩
  refine ⟨_, rfl, p, _, _, _, rfl, rfl, SqT.of hp, at0 a b, _, rfl, q, _, _, _, rfl, rfl, SqT.of hq, at1 c d, _, _, rfl, rfl, sa.cmul sd n0 m0 (by omega), ?_⟩
  refine ⟨_, rfl, q, _, _, _, rfl, rfl, SqT.of hq, at0 c d, _, rfl, p, _, _, _, rfl, rfl, SqT.of hp, at1 a b, _, _, rfl, rfl, sc.cmul sb m0 n0 (by omega), _, _, rfl, rfl, ?_⟩
  refine ⟨_, rfl, p, _, _, _, rfl, rfl, SqT.of hp, at1 a b, _, rfl, q, _, _, _, rfl, rfl, SqT.of hq, at1 c d, _, _, rfl, rfl, sb.cmul sd n0 m0 (by omega), ?_⟩
  exact ⟨_, _, n + m, rfl, Int.mul_ne_zero b0 d0, sb.mul sd, by omega, nm, fun r H' s e h => k r H' s e h⟩
theorem ok_times (T : Tx K mg) : FnOk P w K mg base CX0 2 T.a_times T.fd_times ["one", "other"] (spTwo timesF) := by
  refine T.F_times.ok sc_times (fun vs H Q E h => ?_) (fun cdv A outer st H vs Q E hr h => ?_)
  · obtain ⟨p, q, a, b, c, d, n, m, rfl, _⟩ := h
    rfl
  obtain ⟨p, q, a, b, c, d, n, m, rfl, hp, hq, b0, d0, sa, sb, sc, sd, n0, m0, nm, k⟩ := h
  have G_lowest : FnOk P w K mg base CX0 1 T.a_lowest T.fd_lowest ["a", "b"] spLow := ok_lowest T
  have hr_lowest : Room 1 _ := hr
  refine ⟨_, ((pss_one (ps_ret (pe_call G_lowest hr_lowest rfl T.m_lowest T.F_lowest.kp T.b_lowest .nil pass0 (pa_cons (pe_op op_mulW (pe_ix ix_tup (pv 0) pe_int (fun _ _ => rfl)) (pe_ix ix_tup (pv 1) pe_int (fun _ _ => rfl))) (pa_cons (pe_op op_mulW (pe_ix ix_tup (pv 0) pe_int (fun _ _ => rfl)) (pe_ix ix_tup (pv 1) pe_int (fun _ _ => rfl))) pa_nil)))))), ?_⟩
  refine ⟨_, rfl, p, _, _, _, rfl, rfl, SqT.of hp, at0 a b, _, rfl, q, _, _, _, rfl, rfl, SqT.of hq, at0 c d, _, _, rfl, rfl, sa.cmul sc n0 m0 (by omega), ?_⟩
  refine ⟨_, rfl, p, _, _, _, rfl, rfl, SqT.of hp, at1 a b, _, rfl, q, _, _, _, rfl, rfl, SqT.of hq, at1 c d, _, _, rfl, rfl, sb.cmul sd n0 m0 (by omega), ?_⟩
  exact ⟨_, _, n + m, rfl, Int.mul_ne_zero b0 d0, sb.mul sd, by omega, nm, fun r H' s e h => k r H' s e h⟩
theorem gcd_turn {x y : Int} (hx : 0 ≤ x) (hy : 0 < y) : Nat.gcd y.natAbs (x % y).natAbs = Nat.gcd x.natAbs y.natAbs := by
  have e : (x % y).natAbs = x.natAbs % y.natAbs := by
    have h : (x % y) = (((x.natAbs % y.natAbs : Nat)) : Int) := by
      conv => lhs; rw [show x = ((x.natAbs : Nat) : Int) by omega, show y = ((y.natAbs : Nat) : Int) by omega]
      exact (Int.natCast_emod _ _).symm
    rw [h]; exact Int.natAbs_natCast _
  rw [e, Nat.gcd_comm y.natAbs, ← Nat.gcd_rec, Nat.gcd_comm]
theorem abs_eq (a : Int) : (if a < 0 then -a else a) = ((a.natAbs : Nat) : Int) := by split <;> omega
theorem ok_law_lowest (T : Tx K mg) : FnOk P w K mg base CX0 1 T.a_law_lowest T.fd_law_lowest ["_law_a", "_law_b"] spLow := by
  refine T.F_law_lowest.ok sc_law_lowest (fun vs H Q E h => ?_) (fun cdv A outer st H vs Q E hr h => ?_)
  · obtain ⟨a, b, n, rfl, _⟩ := h
    rfl
  obtain ⟨a, b, n, rfl, hb, sz, n0, n9, k⟩ := h
  refine ⟨_, ((pss_cons (ps_par (i := 2) (j := 3) (by rfl) sc_law_lowest.nd rfl rfl (by decide) rfl rfl (pa_cons (pe_callB call_abs (by rfl) T.n_abs (by decide +kernel) (pa_cons (pv 0) pa_nil)) (pa_cons (pe_callB call_abs (by rfl) T.n_abs (by decide +kernel) (pa_cons (pv 1) pa_nil)) pa_nil)) (by rfl))
      (pss_cons (ps_while PassesOwn.never (pt_cmpR op_gt (pv 3) pe_int (nomark _))
        (pss_one (ps_par (i := 2) (j := 3) (by rfl) sc_law_lowest.nd rfl rfl (by decide) rfl rfl (pa_cons (pv 3) (pa_cons (pe_op op_mod (pe_callTy call_int1 (by rfl) T.n_int (by decide +kernel) (pa_cons (pv 2) pa_nil)) (pv 3)) pa_nil)) (by rfl))))
      (pss_cons (ps_set (i := 2) sc_law_lowest.nd rfl (Or.inl rfl) (pe_ifExp (pt_cmpR op_gt (pv 1) pe_int (nomark _)) (pv 2) (pe_op op_sub pe_int (pv 2))))
      (pss_one (ps_ret (pe_tup (pa_cons (pe_op op_fdivX (pv 0) (pv 2)) (pa_cons (pe_op op_fdivX (pv 1) (pv 2)) pa_nil))))))))), ?_⟩
  have hd : CDivX a (dv a b) := sz.cdiv (dv_ne hb) (dv_le hb) n0 n9
  have hd' : CDivX b (dv a b) := hd
  refine ⟨_, rfl, a, rfl, _, rfl, b, rfl, _, _, rfl, ?_⟩
  refine while_b (fun σ H' => H' = H ∧ ∃ x y : Int, σ = [some (.int a), some (.int b), some (.int x), some (.int y)] ∧ 0 ≤ x ∧ 0 ≤ y ∧ Nat.gcd x.natAbs y.natAbs = Nat.gcd a.natAbs b.natAbs)
    (fun σ _ => match σ with | [_, _, _, some (.int y)] => y.toNat | _ => 0) ⟨rfl, _, _, rfl, by split <;> omega, by split <;> omega, by rw [abs_eq, abs_eq]; rfl⟩ ?_
  rintro σ H1 ⟨rfl, x, y, rfl, hx, hy, hg⟩
  refine ⟨decide (0 < y), fun Q' q => ⟨_, rfl, _, _, rfl, rfl, _, rfl, q⟩, iteD (fun c => ?_) (fun c => ?_)⟩
  · refine ⟨_, rfl, _, rfl, .inl ⟨_, rfl, _, rfl, _, _, rfl, rfl, c, _, _, rfl, ?_⟩⟩
    refine ⟨⟨rfl, y, x % y, rfl, hy, Int.emod_nonneg _ (by omega), by rw [gcd_turn hx c]; exact hg⟩, ?_⟩
    have l : x % y < y := Int.emod_lt_of_pos _ c
    have l0 : 0 ≤ x % y := Int.emod_nonneg _ (by omega)
    show (x % y).toNat < y.toNat
    omega
  · have y0 : y = 0 := by omega
    subst y0
    have ex : x = gI a b := by
      unfold gI
      rw [← hg]
      show x = ((Nat.gcd x.natAbs 0 : Nat) : Int)
      rw [Nat.gcd_zero_right]
      omega
    subst ex
    refine ⟨_, rfl, _, _, rfl, rfl, _, rfl, iteD (fun c => ?_) (fun c => ?_)⟩
    · have e : gI a b = dv a b := by unfold dv; rw [if_pos c]
      refine ⟨_, rfl, ?_⟩
      rw [e]
      refine ⟨_, rfl, _, rfl, _, _, rfl, rfl, hd, _, rfl, _, rfl, _, _, rfl, rfl, hd', (by show 2 ≤ sizeLine; decide), fun p hp => ?_⟩
      exact k p _ (same_new hp _) hp upd_same
    · have e : 0 - gI a b = dv a b := by unfold dv; rw [if_neg c]; omega
      refine ⟨_, rfl, _, _, rfl, rfl, _, rfl, _, rfl, _, _, rfl, rfl, (by show CDivX a (0 - gI a b); rw [e]; exact hd), _, rfl, _, rfl, _, _, rfl, rfl, (by show CDivX b (0 - gI a b); rw [e]; exact hd'), (by show 2 ≤ sizeLine; decide), fun p hp => ?_⟩
      exact k p _ (same_new hp _) hp (upd_same.trans (by show some (HO.tup (pair (a.fdiv (0 - gI a b)) (b.fdiv (0 - gI a b)))) = _; rw [e]; rfl))
end
end My
namespace My
open PySem PySem.Spec PyProof.Rows L2
/-! ### sums of rows -/
/-- a fraction in a list: where it stands, its two numbers -/
abbrev Fr3 := Addr × Int × Int
def frV (t : Fr3) : V := .ref t.1
def FrOk (H : Hp) (t : Fr3) : Prop := H t.1 = some (.tup (pair t.2.1 t.2.2)) ∧ t.2.2 ≠ 0 ∧ Sz 130 t.2.1 ∧ Sz 130 t.2.2
def rs : Int × Int → List Int → List Fr3 → Int × Int
  | acc, n :: ns, t :: ts => rs (low (acc.1 * t.2.2 + n * t.2.1 * acc.2) (acc.2 * t.2.2)) ns ts
  | acc, _, _ => acc
theorem step_eq {t b n p q : Int} (hb : b ≠ 0) (hq : q ≠ 0) : addF t b (timesF n 1 p q).1 (timesF n 1 p q).2 = low (t * q + n * p * b) (b * q) := by
  have hq1 : (1 : Int) * q ≠ 0 := by omega
  have h1 := low_mul (a := n * p) hq1
  have h2 := low_pos (a := n * p) hq1
  unfold addF timesF
  generalize low (n * p) (1 * q) = z at *
  obtain ⟨x, y⟩ := z
  have h1 : x * (1 * q) = n * p * y := h1
  have h2 : 0 < y := h2
  show low (t * y + x * b) (b * y) = low (t * q + n * p * b) (b * q)
  refine low_eq (Int.mul_ne_zero hb (by omega)) (Int.mul_ne_zero hb hq) ?_
  rw [Int.one_mul] at h1
  have l : (t * y + x * b) * (b * q) = t * y * b * q + b * b * (x * q) := by rw [Int.add_mul]; congr 1 <;> ac_rfl
  have r : (t * q + n * p * b) * (b * y) = t * y * b * q + b * b * (n * p * y) := by rw [Int.add_mul]; congr 1 <;> ac_rfl
  rw [l, r, h1]
theorem sz_one : Sz 1 (1 : Int) := by show 1 < 2 ^ 1; decide
theorem sz_zero : Sz 1 (0 : Int) := by show 0 < 2 ^ 1; decide
theorem sz_low {N : Nat} {a b : Int} (hb : b ≠ 0) (h1 : Sz N a) (h2 : Sz N b) : Sz N (low a b).1 ∧ Sz N (low a b).2 := ⟨h1.le (low_le1 hb), h2.le (low_le2 hb)⟩
theorem step_sz {N : Nat} {t b n p q : Int} (hb : b ≠ 0) (hq : q ≠ 0) (st : Sz N t) (sb : Sz N b) (sn : Sz 130 n) (sp : Sz 130 p) (sq : Sz 130 q) :
    Sz (N + 300) (low (t * q + n * p * b) (b * q)).1 ∧ Sz (N + 300) (low (t * q + n * p * b) (b * q)).2 := by
  refine sz_low (Int.mul_ne_zero hb hq) ?_ ?_
  · have h1 : Sz (N + 260) (t * q) := (st.mul sq).up (by omega)
    have h2 : Sz (N + 260) (n * p * b) := ((sn.mul sp).mul sb).up (by omega)
    exact (h1.add h2).up (by omega)
  · exact (sb.mul sq).up (by omega)
def spSum (K : PySem.W.Frag) : Sp := fun vs H Q _ => ∃ (k l : Bool) (a b : Addr) (ns : List Int) (ts : List Fr3), vs = [.ref a, .ref b] ∧ SqK k K H a (ns.map V.int) ∧ SqK l K H b (ts.map frV) ∧ ns.length = ts.length ∧ ns.length ≤ 6 ∧
  (∀ n ∈ ns, Sz 130 n) ∧ (∀ t ∈ ts, FrOk H t) ∧ ∀ (r : Addr) (H' : Hp), Same H H' → H' r = some (.tup (pair (rs (0, 1) ns ts).1 (rs (0, 1) ns ts).2)) → Q (.ref r) H'
/-- the law's own: a tuple and a list -/
def spSumL (K : PySem.W.Frag) : Sp := fun vs H Q _ => ∃ (a b : Addr) (ns : List Int) (ts : List Fr3), vs = [.ref a, .ref b] ∧ SqT K H a (ns.map V.int) ∧ SqL K H b (ts.map frV) ∧ ns.length = ts.length ∧ ns.length ≤ 6 ∧
  (∀ n ∈ ns, Sz 130 n) ∧ (∀ t ∈ ts, FrOk H t) ∧ ∀ (r : Addr) (H' : Hp), Same H H' → H' r = some (.tup (pair (rs (0, 1) ns ts).1 (rs (0, 1) ns ts).2)) → Q (.ref r) H'
theorem sameK {k : Bool} {K : PySem.W.Frag} {H H' : Hp} {a : Addr} {xs : List V} (e : Same H H') (h : SqK k K H a xs) : SqK k K H' a xs := by
  cases k with
  | false => exact e.seq (show SqL K H a xs from h)
  | true =>
    rcases (show SqT K H a xs from h) with (h | ⟨o, h⟩) | h
    · exact .inl (.inl (e _ _ h))
    · exact .inl (.inr ⟨o, e _ _ h⟩)
    · exact .inr h
theorem FrOk.same {H H' : Hp} {t : Fr3} (e : Same H H') (h : FrOk H t) : FrOk H' t := ⟨e _ _ h.1, h.2⟩
/-- what holds between two turns of a sum -/
structure SumAt (ns : List Int) (ts : List Fr3) (i : Nat) (acc : Int × Int) : Prop where
  rest : rs acc (ns.drop i) (ts.drop i) = rs (0, 1) ns ts
  ne : acc.2 ≠ 0
  s1 : Sz (1 + 300 * i) acc.1
  s2 : Sz (1 + 300 * i) acc.2
theorem SumAt.zero (ns : List Int) (ts : List Fr3) : SumAt ns ts 0 (0, 1) := ⟨rfl, by decide, sz_zero, sz_one⟩
theorem SumAt.next {ns : List Int} {ts : List Fr3} {i : Nat} {acc : Int × Int} {n : Int} {t : Fr3} {H : Hp} (S : SumAt ns ts i acc) (hn : ns[i]? = some n) (ht : ts[i]? = some t) (sn : ∀ n ∈ ns, Sz 130 n) (st : ∀ t ∈ ts, FrOk H t) :
    SumAt ns ts (i + 1) (low (acc.1 * t.2.2 + n * t.2.1 * acc.2) (acc.2 * t.2.2)) := by
  obtain ⟨l1, e1⟩ := List.getElem?_eq_some_iff.mp hn
  obtain ⟨l2, e2⟩ := List.getElem?_eq_some_iff.mp ht
  have m1 : n ∈ ns := e1 ▸ List.getElem_mem l1
  have m2 : t ∈ ts := e2 ▸ List.getElem_mem l2
  have o := st t m2
  have z := step_sz S.ne o.2.1 S.s1 S.s2 (sn n m1) o.2.2.1 o.2.2.2
  refine ⟨?_, ?_, z.1.up (by omega), z.2.up (by omega)⟩
  · have := S.rest
    rw [List.drop_eq_getElem_cons l1, List.drop_eq_getElem_cons l2, e1, e2] at this
    exact this
  · exact Int.ne_of_gt (low_pos (Int.mul_ne_zero S.ne o.2.1))
theorem SumAt.done {ns : List Int} {ts : List Fr3} {acc : Int × Int} (S : SumAt ns ts ns.length acc) : acc = rs (0, 1) ns ts := by
  have := S.rest
  rw [List.drop_length] at this
  rw [← this]
  cases ts.drop ns.length <;> rfl
section
variable {P : Program} {w : World} {K : PySem.W.Frag} {mg : Str → Option Value} {base : Heap}
theorem ok_row_sum (T : Tx K mg) : FnOk P w K mg base CX0 3 T.a_row_sum T.fd_row_sum ["row", "fractions"] (spSum K) := by
  refine T.F_row_sum.ok sc_row_sum (fun vs H Q E h => ?_) (fun cdv A outer st H vs Q E hr h => ?_)
  · obtain ⟨k, l, a, b, ns, ts, rfl, _⟩ := h
    rfl
  obtain ⟨k, l, a, b, ns, ts, rfl, ha, hb, hl, h6, sn, sf, go⟩ := h
  have G_added : FnOk P w K mg base CX0 2 T.a_added T.fd_added ["one", "other"] (spTwo addF) := ok_added T
  have G_times : FnOk P w K mg base CX0 2 T.a_times T.fd_times ["one", "other"] (spTwo timesF) := ok_times T
  have hr_added : Room 2 _ := hr
  have hr_times : Room 2 _ := hr
  refine ⟨_, ((pss_cons (ps_set (i := 2) sc_row_sum.nd rfl (Or.inl rfl) (pe_tup (pa_cons pe_int (pa_cons pe_int pa_nil))))
      (pss_cons (ps_for PassesOwn.never rfl (pi_zipM (by rfl) T.n_zip (pa_cons (pv 0) (pa_cons (pv 1) pa_nil))) (pg_tup rfl (pgs_cons (pg_name (i := 3) sc_row_sum.nd rfl (Or.inl rfl)) (pgs_cons (pg_name (i := 4) sc_row_sum.nd rfl (Or.inl rfl)) pgs_nil)))
        (pss_one (ps_set (i := 2) sc_row_sum.nd rfl (Or.inl rfl) (pe_call G_added hr_added rfl T.m_added T.F_added.kp T.b_added .nil pass0 (pa_cons (pv 2) (pa_cons (pe_call G_times hr_times rfl T.m_times T.F_times.kp T.b_times .nil pass0 (pa_cons (pe_tup (pa_cons (pv 3) (pa_cons pe_int pa_nil))) (pa_cons (pv 4) pa_nil))) pa_nil))))))
      (pss_one (ps_ret (pv 2)))))), ?_⟩
  refine ⟨(by show 2 ≤ sizeLine; decide), fun p hp => ?_⟩
  have s0 : Same H (upd H p (.tup (pair 0 1))) := same_new hp _
  refine ⟨_, rfl, _, rfl, k, l, a, b, _, _, rfl, sameK s0 ha, sameK s0 hb, for_zipM (p := ns.map V.int) (q := ts.map frV) (by rw [List.length_map, List.length_map]; exact hl)
    (fun i σ M => ∃ (acc : Int × Int) (q : Addr) (v w : Option V), σ = [some (.ref a), some (.ref b), some (.ref q), v, w] ∧ Same H M ∧ M q = some (.tup (pair acc.1 acc.2)) ∧ SumAt ns ts i acc)
    ⟨(0, 1), p, none, none, rfl, s0, upd_same, .zero _ _⟩ (fun i σ M ⟨_, _, _, _, _, s, _⟩ => ⟨sameK s ha, sameK s hb⟩) ?_ ?_⟩
  · rintro i x y C σ M hx hy ⟨acc, q, v, w', rfl, s1, hq, S⟩ hC
    obtain ⟨n, hn, rfl⟩ : ∃ n, ns[i]? = some n ∧ x = V.int n := by
      rw [List.getElem?_map] at hx
      cases e : ns[i]? with
      | none => rw [e] at hx; cases hx
      | some n => rw [e] at hx; exact ⟨n, rfl, (Option.some.inj hx).symm⟩
    obtain ⟨t, ht, rfl⟩ : ∃ t, ts[i]? = some t ∧ y = frV t := by
      rw [List.getElem?_map] at hy
      cases e : ts[i]? with
      | none => rw [e] at hy; cases hy
      | some t => rw [e] at hy; exact ⟨t, rfl, (Option.some.inj hy).symm⟩
    obtain ⟨l1, e1⟩ := List.getElem?_eq_some_iff.mp hn
    obtain ⟨l2, e2⟩ := List.getElem?_eq_some_iff.mp ht
    have m1 : n ∈ ns := e1 ▸ List.getElem_mem l1
    have m2 : t ∈ ts := e2 ▸ List.getElem_mem l2
    have o := sf t m2
    have s2 : Same M (upd M C (.tup [.int n, frV t])) := same_new hC _
    refine ⟨C, _, rfl, SqT.of upd_same, rfl, _, _, rfl, _, _, rfl, rfl, ?_⟩
    refine ⟨_, rfl, _, rfl, (by show 2 ≤ sizeLine; decide), fun D hD => ?_⟩
    have s3 : Same (upd M C (.tup [.int n, frV t])) (upd (upd M C (.tup [.int n, frV t])) D (.tup (pair n 1))) := same_new hD _
    have s13 := (s1.trans s2).trans s3
    refine ⟨_, rfl, D, t.1, n, 1, t.2.1, t.2.2, 130, 130, rfl, upd_same, s13 _ _ o.1, by decide, o.2.1, sn n m1, sz_one.up (by omega), o.2.2.1, o.2.2.2, by decide, by decide, by decide, fun r M2 s4 hr0 hr2 => ?_⟩
    have q1 : (1 : Int) * t.2.2 ≠ 0 := by have := o.2.1; omega
    have ty : (timesF n 1 t.2.1 t.2.2).2 ≠ 0 := Int.ne_of_gt (low_pos q1)
    have tz := sz_low (N := 261) (a := n * t.2.1) q1 (((sn n m1).mul o.2.2.1).up (by omega)) ((sz_one.mul o.2.2.2).up (by omega))
    have l6 : i < 6 := by omega
    refine ⟨q, r, acc.1, acc.2, _, _, 1 + 300 * i, 261, rfl, s4 _ _ (s3 _ _ (s2 _ _ hq)), hr2, S.ne, ty, S.s1, S.s2, tz.1, tz.2, by omega, by decide, by omega, fun r3 M3 s5 h0 h3 => ?_⟩
    rw [step_eq S.ne o.2.1] at h3
    exact ⟨_, r3, _, _, rfl, (s13.trans s4).trans s5, h3, S.next hn ht sn sf⟩
  · rintro σ M ⟨acc, q, v, w', rfl, s1, hq, S⟩
    rw [List.length_map] at S
    refine ⟨_, rfl, ?_⟩
    have e := S.done
    rw [e] at hq
    exact go q M s1 hq
theorem ok_law_row_sum (T : Tx K mg) : FnOk P w K mg base CX0 2 T.a_law_row_sum T.fd_law_row_sum ["_law_row", "_law_fractions"] (spSumL K) := by
  refine T.F_law_row_sum.ok sc_law_row_sum (fun vs H Q E h => ?_) (fun cdv A outer st H vs Q E hr h => ?_)
  · obtain ⟨a, b, ns, ts, rfl, _⟩ := h
    rfl
  obtain ⟨a, b, ns, ts, rfl, ha, hb, hl, h6, sn, sf, go⟩ := h
  have G_law_lowest : FnOk P w K mg base CX0 1 T.a_law_lowest T.fd_law_lowest ["_law_a", "_law_b"] spLow := ok_law_lowest T
  have hr_law_lowest : Room 1 _ := hr
  refine ⟨_, ((pss_cons (ps_asg (pe_tup (pa_cons pe_int (pa_cons pe_int pa_nil))) (pg_tup rfl (pgs_cons (pg_name (i := 2) sc_law_row_sum.nd rfl (Or.inl rfl)) (pgs_cons (pg_name (i := 3) sc_law_row_sum.nd rfl (Or.inl rfl)) pgs_nil))))
      (pss_cons (ps_for PassesOwn.never rfl (pi_range1 rfl T.n_range (pa_cons (pe_callB call_len_seq (by rfl) T.n_len (by decide +kernel) (pa_cons (pv 0) pa_nil)) pa_nil)) (pg_name (i := 4) sc_law_row_sum.nd rfl (Or.inl rfl))
        (pss_one (ps_asg (pe_call G_law_lowest hr_law_lowest rfl T.m_law_lowest T.F_law_lowest.kp T.b_law_lowest .nil pass0 (pa_cons (pe_op op_add (pe_op op_mulW (pv 2) (pe_ix ix_tup (pe_ix ix_list (pv 1) (pv 4) (fun _ _ => rfl)) pe_int (fun _ _ => rfl))) (pe_op op_mulW (pe_op op_mulW (pe_ix ix_tup (pv 0) (pv 4) (fun _ _ => rfl)) (pe_ix ix_tup (pe_ix ix_list (pv 1) (pv 4) (fun _ _ => rfl)) pe_int (fun _ _ => rfl))) (pv 3))) (pa_cons (pe_op op_mulW (pv 3) (pe_ix ix_tup (pe_ix ix_list (pv 1) (pv 4) (fun _ _ => rfl)) pe_int (fun _ _ => rfl))) pa_nil))) (pg_tup rfl (pgs_cons (pg_name (i := 2) sc_law_row_sum.nd rfl (Or.inl rfl)) (pgs_cons (pg_name (i := 3) sc_law_row_sum.nd rfl (Or.inl rfl)) pgs_nil))))))
      (pss_one (ps_ret (pe_tup (pa_cons (pv 2) (pa_cons (pv 3) pa_nil)))))))), ?_⟩
  refine ⟨(by show 2 ≤ sizeLine; decide), fun p hp => ?_⟩
  have s0 : Same H (upd H p (.tup (pair 0 1))) := same_new hp _
  refine ⟨p, _, rfl, SqT.of upd_same, rfl, _, _, rfl, _, _, rfl, rfl, ?_⟩
  refine ⟨_, rfl, a, _, rfl, .inr (sameK (k := true) s0 ha), _, rfl, by omega, by rw [List.length_map]; omega, ?_⟩
  rw [List.length_map]
  refine for_range (lo := 0) (n := ns.length) (fun i σ M => ∃ (acc : Int × Int) (v : Option V), σ = [some (.ref a), some (.ref b), some (.int acc.1), some (.int acc.2), v] ∧ Same H M ∧ SumAt ns ts i acc) ⟨(0, 1), none, rfl, s0, .zero _ _⟩ ?_ ?_
  · rintro i σ M hi ⟨acc, v, rfl, s1, S⟩
    have hn : ns[i]? = some ns[i] := List.getElem?_eq_getElem hi
    have hi2 : i < ts.length := by omega
    have ht : ts[i]? = some ts[i] := List.getElem?_eq_getElem hi2
    have o := sf _ (List.getElem_mem hi2)
    have sni := sn _ (List.getElem_mem hi)
    have hM := s1 _ _ o.1
    have hra : SqT K M a (ns.map V.int) := sameK (k := true) s1 ha
    have hrb : SqL K M b (ts.map frV) := s1.seq hb
    have ea : atI (ns.map V.int) (0 + (i : Int)) = some (.int ns[i]) := by
      rw [Int.zero_add]; exact atI_nat (by rw [List.getElem?_map, hn]; rfl)
    have eb : atI (ts.map frV) (0 + (i : Int)) = some (frV ts[i]) := by
      rw [Int.zero_add]; exact atI_nat (by rw [List.getElem?_map, ht]; rfl)
    have c1 : CMulW acc.1 ts[i].2.2 := S.s1.cmul o.2.2.2 (by omega) (by decide) (by omega)
    have c2 : CMulW ns[i] ts[i].2.1 := sni.cmul o.2.2.1 (by decide) (by decide) (by decide)
    have c3 : CMulW (ns[i] * ts[i].2.1) acc.2 := (sni.mul o.2.2.1).cmul S.s2 (by decide) (by omega) (by omega)
    have c4 : CMulW acc.2 ts[i].2.2 := S.s2.cmul o.2.2.2 (by omega) (by decide) (by omega)
    have fr : ∀ (te : V → Hp → Prop), te (frV ts[i]) M → te (.ref ts[i].1) M := fun _ z => z
    refine ⟨_, rfl, _, rfl, _, rfl, b, _, _, _, rfl, rfl, hrb, eb, ts[i].1, _, _, _, rfl, rfl, SqT.of hM, at1 _ _, _, _, rfl, rfl, c1, ?_⟩
    refine ⟨_, rfl, _, rfl, a, _, _, _, rfl, rfl, hra, ea, _, rfl, _, rfl, b, _, _, _, rfl, rfl, hrb, eb, ts[i].1, _, _, _, rfl, rfl, SqT.of hM, at0 _ _, _, _, rfl, rfl, c2, _, rfl, _, _, rfl, rfl, c3, _, _, rfl, rfl, ?_⟩
    refine ⟨_, rfl, _, rfl, _, rfl, b, _, _, _, rfl, rfl, hrb, eb, ts[i].1, _, _, _, rfl, rfl, SqT.of hM, at1 _ _, _, _, rfl, rfl, c4, ?_⟩
    refine ⟨_, _, 2000, rfl, Int.mul_ne_zero S.ne o.2.1, (S.s2.mul o.2.2.2).up (by omega), by decide, by decide, fun r M2 s2 h0 h2 => ?_⟩
    refine ⟨r, _, rfl, SqT.of h2, rfl, _, _, rfl, _, _, rfl, rfl, ?_⟩
    exact ⟨_, _, rfl, s1.trans s2, S.next hn ht sn sf⟩
  · rintro σ M ⟨acc, v, rfl, s1, S⟩
    have e := S.done
    subst e
    refine ⟨_, rfl, _, rfl, (by show 2 ≤ sizeLine; decide), fun r hr0 => ?_⟩
    exact go r _ (s1.trans (same_new hr0 _)) upd_same
end
end My
namespace My
open PySem PySem.Spec PyProof.Rows L2
/-! ### values of all kinds -/
inductive Sh (H : Hp) : V → String → Prop
  | non : Sh H .non "NoneType"
  | bl (b : Bool) : Sh H (.bl b) "bool"
  | int (i : Int) : Sh H (.int i) "int"
  | str (x : Str) : Sh H (.str x) "str"
  | lst {a : Addr} {xs : List V} (e : H a = some (.lst xs)) : Sh H (.ref a) "list"
  | tup {a : Addr} {xs : List V} (e : H a = some (.tup xs)) : Sh H (.ref a) "tuple"
  | dK {a : Addr} {kvs : List (Key × V)} (e : H a = some (.dK kvs)) : Sh H (.ref a) "dict"
theorem Sh.ty {K : PySem.W.Frag} {H : Hp} {v : V} {T : String} (h : Sh H v T) : TyX K H v (.type T) := by
  cases h with
  | non => exact .base .non
  | bl b => exact .base (.bl b)
  | int i => exact .base (.int i)
  | str x => exact .base (.str x)
  | lst e => exact .base (.lst e)
  | tup e => exact .base (.tup e)
  | dK e => exact .base (.dK e)
theorem Sh.same {H H' : Hp} {v : V} {T : String} (e : Same H H') (h : Sh H v T) : Sh H' v T := by
  cases h with
  | non => exact .non
  | bl b => exact .bl b
  | int i => exact .int i
  | str x => exact .str x
  | lst q => exact .lst (e _ _ q)
  | tup q => exact .tup (e _ _ q)
  | dK q => exact .dK (e _ _ q)
def isI : V → Bool
  | .int _ => true
  | _ => false
def isB : V → Bool
  | .bl _ => true
  | _ => false
theorem Sh.isInt {K : PySem.W.Frag} {H : Hp} {v : V} {T : String} (h : Sh H v T) : PySem.W.kitOne K (.type T) (.type "int") = some (isI v || isB v) := by
  cases h <;> first | exact kit_ty (r := true) (by decide +kernel) | exact kit_ty (r := false) (by decide +kernel)
theorem Sh.isBool {K : PySem.W.Frag} {H : Hp} {v : V} {T : String} (h : Sh H v T) : PySem.W.kitOne K (.type T) (.type "bool") = some (isB v) := by
  cases h <;> first | exact kit_ty (r := true) (by decide +kernel) | exact kit_ty (r := false) (by decide +kernel)
theorem Sh.isTuple {K : PySem.W.Frag} {H : Hp} {v : V} {T : String} (h : Sh H v T) : PySem.W.kitOne K (.type T) (.type "tuple") = some (decide (T = "tuple")) := by
  cases h <;> first | exact kit_ty (r := true) (by decide +kernel) | exact kit_ty (r := false) (by decide +kernel)
/-- whether two values are a fraction -/
def fracL : List V → Bool
  | [.int a, .int b] => decide (1 ≤ b) && (Nat.gcd a.natAbs b.natAbs == 1)
  | _ => false
/-- b tells whether v is a fraction -/
def Fr (H : Hp) (v : V) (b : Bool) : Prop := (∃ T, Sh H v T ∧ T ≠ "tuple" ∧ b = false) ∨
  ∃ (a : Addr) (xs : List V), v = .ref a ∧ H a = some (.tup xs) ∧ (∀ x ∈ xs, ∃ T, Sh H x T) ∧ (∀ i, V.int i ∈ xs → Sz 400 i) ∧ xs.length ≤ 10 ∧ b = fracL xs
theorem Fr.same {H H' : Hp} {v : V} {b : Bool} (e : Same H H') (h : Fr H v b) : Fr H' v b := by
  rcases h with ⟨T, h, n, r⟩ | ⟨a, xs, rfl, h, hs, hz, hl, r⟩
  · exact .inl ⟨T, h.same e, n, r⟩
  · exact .inr ⟨a, xs, rfl, e _ _ h, fun x hx => let ⟨T, z⟩ := hs x hx; ⟨T, z.same e⟩, hz, hl, r⟩
def spIsInt : Sp := fun vs H Q _ => ∃ v, vs = [v] ∧ (∃ T, Sh H v T) ∧ Q (.bl (isI v)) H
def spFrac : Sp := fun vs H Q _ => ∃ (v : V) (b : Bool), vs = [v] ∧ Fr H v b ∧ ∀ H', Same H H' → Q (.bl b) H'
section
variable {X : Cx}
def rNeLen (K : PySem.W.Frag) : R2 := fun x y H Q => ∃ (a b : Addr) (xs ys : List V), x = .ref a ∧ y = .ref b ∧ SqL K H a xs ∧ SqL K H b ys ∧ xs.length ≠ ys.length ∧ Q (.bl true) H
theorem op_neLen (hu : X.A.units + 64 < cLine) : OpR X (compareOp .NotEq) (rNeLen X.K) := by
  intro pins s σ H x y v u Q I rx ry h
  obtain ⟨a, b, xs, ys, rfl, rfl, hx, hy, hn, q⟩ := h
  cases (show v = Value.ref a from rx)
  cases (show u = Value.ref b from ry)
  obtain ⟨is, r1, p1, _⟩ := I.list hx
  obtain ⟨js, r2, p2, _⟩ := I.list hy
  have e1 := r1.length
  have e2 := r2.length
  have hb : (is.toArray.size != js.toArray.size) = true := by
    rw [List.size_toArray, List.size_toArray]
    exact bne_iff_ne.mpr (by omega)
  exact SeqAt.RcNeAt.lists_lengths p1.isList p2.isList hb (by omega) _ _ _ _ ⟨.bl true, H, I, rfl, q⟩
end
section
variable {P : Program} {w : World} {K : PySem.W.Frag} {mg : Str → Option Value} {base : Heap}
theorem ok_is_integer (T : Tx K mg) : FnOk P w K mg base CX0 1 T.a_is_integer T.fd_is_integer ["value"] spIsInt := by
  refine T.F_is_integer.ok sc_is_integer (fun vs H Q E h => ?_) (fun cdv A outer st H vs Q E hr h => ?_)
  · obtain ⟨v, rfl, _⟩ := h
    rfl
  obtain ⟨v, rfl, ⟨t, ht⟩, k⟩ := h
  refine ⟨_, ((pss_one (ps_ret (pe_and (pe_callB (show CallR _ (.builtin "isinstance") (rIsi K) from call_isi) (by rfl) T.n_isinstance (by decide +kernel) (pa_cons (pv 0) (pa_cons (pe_bltn (v := .ty "int") (by rfl) T.n_int (by decide +kernel) rfl) pa_nil))) (pe_one (pe_not (pe_callB (show CallR _ (.builtin "isinstance") (rIsi K) from call_isi) (by rfl) T.n_isinstance (by decide +kernel) (pa_cons (pv 0) (pa_cons (pe_bltn (v := .ty "bool") (by rfl) T.n_bool (by decide +kernel) rfl) pa_nil))))))))), ?_⟩
  refine ⟨_, rfl, v, .ty "int", _, _, _, rfl, .ty "int", ht.ty, ht.isInt, _, rfl, ?_⟩
  refine ite2 (fun c => ?_) (fun c => ?_)
  · refine ⟨_, rfl, v, .ty "bool", _, _, _, rfl, .ty "bool", ht.ty, ht.isBool, _, rfl, ?_⟩
    have e : (!isB v) = isI v := by cases v <;> first | rfl | exact absurd c Bool.false_ne_true
    rw [e]
    exact k
  · have e : isI v = false := by cases v <;> first | rfl | (exact absurd rfl c)
    rw [e] at k
    exact k
theorem gcd_one (a b : Int) : decide (V.int ((Nat.gcd a.natAbs b.natAbs : Nat) : Int) = V.int 1) = (Nat.gcd a.natAbs b.natAbs == 1) := by
  generalize Nat.gcd a.natAbs b.natAbs = g
  by_cases h : g = 1
  · subst h; rfl
  · rw [beq_eq_false_iff_ne.mpr h]
    exact decide_eq_false (fun z => h (by have := V.int.inj z; omega))
theorem fracL_no {xs : List V} (h : xs.length ≠ 2) : fracL xs = false := by
  match xs, h with
  | [], _ => rfl
  | [x], _ => cases x <;> rfl
  | [_, _], h => exact absurd rfl h
  | x :: y :: _ :: _, _ => cases x <;> first | rfl | (cases y <;> rfl)
theorem ok_is_fraction (T : Tx K mg) : FnOk P w K mg base CX0 2 T.a_is_fraction T.fd_is_fraction ["value"] spFrac := by
  refine T.F_is_fraction.ok sc_is_fraction (fun vs H Q E h => ?_) (fun cdv A outer st H vs Q E hr h => ?_)
  · obtain ⟨v, b, rfl, _⟩ := h
    rfl
  obtain ⟨v, b, rfl, hf, k⟩ := h
  have G_is_integer : FnOk P w K mg base CX0 1 T.a_is_integer T.fd_is_integer ["value"] spIsInt := ok_is_integer T
  have hr_is_integer : Room 1 _ := hr
  refine ⟨_, ((pss_cons (ps_if (PW.pt (pw_or (pt_not (pt_val (pe_callB (show CallR _ (.builtin "isinstance") (rIsi K) from call_isi) (by rfl) T.n_isinstance (by decide +kernel) (pa_cons (pv 0) (pa_cons (pe_bltn (v := .ty "tuple") (by rfl) T.n_tuple (by decide +kernel) rfl) pa_nil))))) (pw_or1 (pt_cmpR op_ne (pe_callB call_len_seq (by rfl) T.n_len (by decide +kernel) (pa_cons (pv 0) pa_nil)) pe_int (nomark _)))))
        (pss_one (ps_ret pe_bl))
        pss_nil)
      (pss_cons (ps_asg (pv 0) (pg_tup rfl (pgs_cons (pg_name (i := 1) sc_is_fraction.nd rfl (Or.inl rfl)) (pgs_cons (pg_name (i := 2) sc_is_fraction.nd rfl (Or.inl rfl)) pgs_nil))))
      (pss_one (ps_ret (pe_and (pe_call G_is_integer hr_is_integer rfl T.m_is_integer T.F_is_integer.kp T.b_is_integer .nil pass0 (pa_cons (pv 1) pa_nil)) (pe_and (pe_call G_is_integer hr_is_integer rfl T.m_is_integer T.F_is_integer.kp T.b_is_integer .nil pass0 (pa_cons (pv 2) pa_nil)) (pe_and (pe_cmpR op_ge (pv 2) pe_int (nomark _)) (pe_one (pe_cmpR op_eq (pe_callBfun cr_gcd rfl T.g_gcd (pa_cons (pv 1) (pa_cons (pv 2) pa_nil))) pe_int (nomark _))))))))))), ?_⟩
  rcases hf with ⟨t, ht, nt, rfl⟩ | ⟨a, xs, rfl, ha, hs, hz, hl, rfl⟩
  · refine ⟨_, rfl, v, .ty "tuple", _, _, _, rfl, .ty "tuple", ht.ty, ht.isTuple, _, rfl, ?_⟩
    rw [decide_eq_false nt]
    exact k H (.refl _)
  · have ht : Sh H (.ref a) "tuple" := .tup ha
    refine ⟨_, rfl, .ref a, .ty "tuple", _, _, _, rfl, .ty "tuple", ht.ty, ht.isTuple, _, rfl, ?_⟩
    refine ⟨_, rfl, a, xs, rfl, .inr (SqT.of ha), rfl, _, rfl, iteN (fun c => ?_) (fun c => ?_)⟩
    · have hne : xs.length ≠ 2 := fun z => c (by rw [z]; rfl)
      rw [fracL_no hne] at k
      exact k H (.refl _)
    · have h2 : xs.length = 2 := by have := V.int.inj c; omega
      obtain ⟨x, y, rfl⟩ : ∃ x y, xs = [x, y] := by
        match xs, h2 with
        | [x, y], _ => exact ⟨x, y, rfl⟩
      obtain ⟨t1, s1⟩ := hs x (by simp)
      obtain ⟨t2, s2⟩ := hs y (by simp)
      refine ⟨_, rfl, a, _, rfl, SqT.of ha, rfl, _, _, rfl, _, _, rfl, rfl, ?_⟩
      refine ⟨_, rfl, x, rfl, ⟨t1, s1⟩, _, rfl, ite2 (fun cx => ?_) (fun cx => ?_)⟩
      · obtain ⟨i, rfl⟩ : ∃ i, x = .int i := by cases x <;> first | exact ⟨_, rfl⟩ | exact absurd cx Bool.false_ne_true
        refine ⟨_, rfl, y, rfl, ⟨t2, s2⟩, _, rfl, ite2 (fun cy => ?_) (fun cy => ?_)⟩
        · obtain ⟨j, rfl⟩ : ∃ j, y = .int j := by cases y <;> first | exact ⟨_, rfl⟩ | exact absurd cy Bool.false_ne_true
          refine ⟨_, rfl, _, _, rfl, rfl, _, rfl, iteD (fun cz => ?_) (fun cz => ?_)⟩
          · refine ⟨_, rfl, _, rfl, _, _, rfl, rfl, ?_⟩
            rw [gcd_one]
            have e : fracL [.int i, .int j] = (Nat.gcd i.natAbs j.natAbs == 1) := by
              show (decide (1 ≤ j) && _) = _
              rw [decide_eq_true cz, Bool.true_and]
            rw [e] at k
            exact k H (.refl _)
          · have e : fracL [.int i, .int j] = false := by
              show (decide (1 ≤ j) && _) = _
              rw [decide_eq_false cz, Bool.false_and]
            rw [e] at k
            exact k H (.refl _)
        · have e : fracL [.int i, y] = false := by cases y <;> first | rfl | exact absurd rfl cy
          rw [e] at k
          exact k H (.refl _)
      · have e : fracL [x, y] = false := by cases x <;> first | rfl | exact absurd rfl cx
        rw [e] at k
        exact k H (.refl _)
/-- a fraction by the law's own reckoning -/
theorem low_self_iff {a b : Int} (hb : 1 ≤ b) : ((low a b).1 = a ∧ (low a b).2 = b) ↔ Nat.gcd a.natAbs b.natAbs = 1 := by
  have b0 : b ≠ 0 := by omega
  constructor
  · rintro ⟨h1, h2⟩
    have := low_cop (a := a) b0
    rw [h1, h2] at this
    exact this
  · intro h
    exact cop_eq (low_pos b0) (by omega) (low_cop b0) h (low_mul b0)
theorem filt_succ {xs : List V} {f : V → Bool} {i : Nat} {x : V} (hi : xs[i]? = some x) : (xs.take (i + 1)).filter f = (xs.take i).filter f ++ (if f x = true then [x] else []) := by
  obtain ⟨li, ei⟩ := List.getElem?_eq_some_iff.mp hi
  rw [List.take_succ_eq_append_getElem li, List.filter_append, ei]
  congr 1
  cases h : f x <;> simp [h]
theorem filt_some {xs : List V} (h : (xs.filter fun x => !isI x) ≠ []) : fracL xs = false := by
  match xs with
  | [] => rfl
  | [x] => cases x <;> rfl
  | [x, y] =>
    cases x <;> first | rfl | skip
    cases y <;> first | rfl | exact absurd rfl h
  | x :: y :: _ :: _ => cases x <;> first | rfl | (cases y <;> rfl)
theorem filt_none {x y : V} (h : ([x, y].filter fun x => !isI x) = []) : ∃ a b, x = .int a ∧ y = .int b := by
  cases x <;> first | exact absurd h (List.cons_ne_nil _ _) | skip
  cases y <;> first | exact absurd h (List.cons_ne_nil _ _) | exact ⟨_, _, rfl, rfl⟩
theorem eqv_pair (x y a b : Int) : PyData.eqv (.tuple [.int x, .int y]) (.tuple [.int a, .int b]) = (x == a && y == b) := by
  show (x == a && (y == b && true)) = _
  rw [Bool.and_true]
theorem Dp.pair {K : PySem.W.Frag} {H : Hp} {p : Addr} {a b : Int} (h : H p = some (.tup (pair a b))) : Dp K H (.ref p) (.tuple [.int a, .int b]) := .tup (SqT.of h) (.cons (.int a) (.cons (.int b) .nil))
theorem ok_law_is_fraction (T : Tx K mg) : FnOk P w K mg base CX0 2 T.a_law_is_fraction T.fd_law_is_fraction ["_law_value"] spFrac := by
  refine T.F_law_is_fraction.ok sc_law_is_fraction (fun vs H Q E h => ?_) (fun cdv A outer st H vs Q E hr h => ?_)
  · obtain ⟨v, b, rfl, _⟩ := h
    rfl
  obtain ⟨v, b, rfl, hf, k⟩ := h
  have G_law_lowest : FnOk P w K mg base CX0 1 T.a_law_lowest T.fd_law_lowest ["_law_a", "_law_b"] spLow := ok_law_lowest T
  have hr_law_lowest : Room 1 _ := hr
  refine ⟨_, ((pss_cons (ps_if (PW.pt (pw_or (pt_not (pt_val (pe_callB (show CallR _ (.builtin "isinstance") (rIsi K) from call_isi) (by rfl) T.n_isinstance (by decide +kernel) (pa_cons (pv 0) (pa_cons (pe_bltn (v := .ty "tuple") (by rfl) T.n_tuple (by decide +kernel) rfl) pa_nil))))) (pw_or1 (pt_cmpR op_ne (pe_callB call_len_seq (by rfl) T.n_len (by decide +kernel) (pa_cons (pv 0) pa_nil)) pe_int (nomark _)))))
        (pss_one (ps_ret pe_bl))
        pss_nil)
      (pss_cons (ps_if (pt_cmpR (OpR.or (op_neD hr.units) (op_neLen hr.units)) (pe_lc (own := [("_law_one", 1)]) (by rfl) sc_law_is_fraction.nd (pi_tup (pv 0)) (blkOk_by (own := [("_law_one", 1)]) (N := ["_law_value", "_law_one"]) (sc := defScope s_law_is_fraction) (by decide +kernel)) (fun _ _ _ _ _ => pg_name (i := 1) sc_law_is_fraction.nd rfl (Or.inl rfl)) (fun _ _ _ _ _ => (pts_one (PW.pt (pw_or (pt_val (pe_callB (show CallR _ (.builtin "isinstance") (rIsi K) from call_isi) (by rfl) T.n_isinstance (by decide +kernel) (pa_cons (pv 1) (pa_cons (pe_bltn (v := .ty "bool") (by rfl) T.n_bool (by decide +kernel) rfl) pa_nil)))) (pw_or1 (pt_not (pt_val (pe_callB (show CallR _ (.builtin "isinstance") (rIsi K) from call_isi) (by rfl) T.n_isinstance (by decide +kernel) (pa_cons (pv 1) (pa_cons (pe_bltn (v := .ty "int") (by rfl) T.n_int (by decide +kernel) rfl) pa_nil)))))))))) (fun _ _ _ _ _ => (pv 1))) (pe_lst pa_nil) (nomark _))
        (pss_one (ps_ret pe_bl))
        pss_nil)
      (pss_one (ps_ret (pe_and (pe_cmpR op_ge (pe_ix ix_tup (pv 0) pe_int (fun _ _ => rfl)) pe_int (nomark _)) (pe_one (pe_cmpR (op_eqD hr.units) (pe_call G_law_lowest hr_law_lowest rfl T.m_law_lowest T.F_law_lowest.kp T.b_law_lowest .nil pass0 (pa_cons (pe_ix ix_tup (pv 0) pe_int (fun _ _ => rfl)) (pa_cons (pe_ix ix_tup (pv 0) pe_int (fun _ _ => rfl)) pa_nil))) (pv 0) (nomark _))))))))), ?_⟩
  rcases hf with ⟨t, ht, nt, rfl⟩ | ⟨a, xs, rfl, ha, hs, hz, hl, rfl⟩
  · refine ⟨_, rfl, v, .ty "tuple", _, _, _, rfl, .ty "tuple", ht.ty, ht.isTuple, _, rfl, ?_⟩
    rw [decide_eq_false nt]
    exact k H (.refl _)
  · have ht : Sh H (.ref a) "tuple" := .tup ha
    refine ⟨_, rfl, .ref a, .ty "tuple", _, _, _, rfl, .ty "tuple", ht.ty, ht.isTuple, _, rfl, ?_⟩
    refine ⟨_, rfl, a, xs, rfl, .inr (SqT.of ha), rfl, _, rfl, iteN (fun c => ?_) (fun c => ?_)⟩
    · have hne : xs.length ≠ 2 := fun z => c (by rw [z]; rfl)
      rw [fracL_no hne] at k
      exact k H (.refl _)
    · have h2 : xs.length = 2 := by have := V.int.inj c; omega
      refine ⟨_, rfl, a, rfl, ⟨_, SqT.of ha⟩, fun D hD => lc_tup (K := K) (a := a) (xs := xs) (fun i M => Same H M ∧ M D = some (.lst ((xs.take i).filter fun x => !isI x))) ⟨same_new hD _, upd_same⟩ (fun i M _ z => SqT.of (z.1 _ _ ha)) ?_ ?_⟩
      · rintro i x M hi ⟨s1, e1⟩
        obtain ⟨li, ei⟩ := List.getElem?_eq_some_iff.mp hi
        obtain ⟨t1, sh0⟩ := hs x (ei ▸ List.getElem_mem li)
        have sh : Sh M x t1 := sh0.same s1
        refine ⟨rfl, ?_⟩
        have yes : (!isI x) = true → (∃ acc, M D = some (.lst acc) ∧ acc.length < sizeLine ∧ (Same H (upd M D (.lst (acc ++ [x]))) ∧ (upd M D (.lst (acc ++ [x]))) D = some (.lst ((xs.take (i + 1)).filter fun x => !isI x)))) := by
          intro eb
          refine ⟨_, e1, ?_, ?_, ?_⟩
          · have := List.length_filter_le (fun x => !isI x) (xs.take i)
            rw [List.length_take] at this
            exact small1000 (by omega)
          · intro b o e
            rw [upd_ne (ne_of_none e hD)]
            exact s1 b o e
          · rw [upd_same, filt_succ hi, if_pos eb]
        have no : ¬ (!isI x) = true → (Same H M ∧ M D = some (.lst ((xs.take (i + 1)).filter fun x => !isI x))) := by
          intro eb
          refine ⟨s1, ?_⟩
          rw [e1, filt_succ hi, if_neg eb, List.append_nil]
        refine ⟨_, rfl, x, .ty "bool", _, _, _, rfl, .ty "bool", sh.ty, sh.isBool, _, rfl, ite2 (fun c => ?_) (fun c => ?_)⟩
        · exact ⟨_, rfl, yes (by cases x <;> first | rfl | exact absurd c Bool.false_ne_true)⟩
        · refine ⟨_, rfl, x, .ty "int", _, _, _, rfl, .ty "int", sh.ty, sh.isInt, _, rfl, ?_⟩
          have e : (!(isI x || isB x)) = !isI x := by cases x <;> first | rfl | exact absurd rfl c
          refine ite2 (fun d => ?_) (fun d => ?_)
          · exact ⟨_, rfl, yes (e ▸ d)⟩
          · exact no (e ▸ d)
      · rintro M ⟨s1, e1⟩
        rw [List.take_length] at e1
        refine ⟨Nat.zero_le _, fun p hp => ?_⟩
        have s2 : Same M (upd M p (.lst [])) := same_new hp _
        by_cases hne : (xs.filter fun x => !isI x) = []
        · rw [hne] at e1
          refine .inl ⟨.list [], .list [], .lst (SqL.of (s2 _ _ e1)) .nil, .lst (SqL.of upd_same) .nil, rfl, rfl, _, rfl, ?_⟩
          obtain ⟨x, y, rfl⟩ : ∃ x y, xs = [x, y] := by
            match xs, h2 with
            | [x, y], _ => exact ⟨x, y, rfl⟩
          obtain ⟨i, j, rfl, rfl⟩ := filt_none hne
          have h3 : Same H (upd M p (.lst [])) := s1.trans s2
          have ha2 : (upd M p (.lst [])) a = some (.tup (pair i j)) := h3 _ _ ha
          refine ⟨_, rfl, a, _, _, _, rfl, rfl, SqT.of ha2, at1 i j, _, _, rfl, rfl, _, rfl, iteD (fun c1 => ?_) (fun c1 => ?_)⟩
          · refine ⟨_, rfl, a, _, _, _, rfl, rfl, SqT.of ha2, at0 i j, _, rfl, a, _, _, _, rfl, rfl, SqT.of ha2, at1 i j, i, j, 400, rfl, by omega, hz j (by simp), by decide, by decide, fun r M2 s4 h0 h4 => ?_⟩
            refine ⟨_, rfl, _, _, Dp.pair h4, Dp.pair (s4 _ _ ha2), rfl, rfl, ?_⟩
            rw [eqv_pair]
            have e : fracL [.int i, .int j] = ((low i j).1 == i && (low i j).2 == j) := by
              show (decide (1 ≤ j) && (Nat.gcd i.natAbs j.natAbs == 1)) = _
              rw [decide_eq_true c1, Bool.true_and]
              have z := low_self_iff (a := i) c1
              by_cases g : Nat.gcd i.natAbs j.natAbs = 1
              · obtain ⟨z1, z2⟩ := z.mpr g
                rw [z1, z2, beq_self_eq_true, beq_self_eq_true, g]; rfl
              · rw [beq_eq_false_iff_ne.mpr g]
                symm
                rw [Bool.and_eq_false_iff]
                by_cases z1 : (low i j).1 = i
                · right
                  exact beq_eq_false_iff_ne.mpr fun z2 => g (z.mp ⟨z1, z2⟩)
                · left
                  exact beq_eq_false_iff_ne.mpr z1
            rw [← e]
            exact k _ (h3.trans s4)
          · have e : fracL [.int i, .int j] = false := by
              show (decide (1 ≤ j) && _) = _
              rw [decide_eq_false c1, Bool.false_and]
            rw [e] at k
            exact k _ h3
        · refine .inr ⟨D, p, _, _, rfl, rfl, SqL.of (s2 _ _ e1), SqL.of upd_same, ?_, _, rfl, ?_⟩
          · intro z
            exact hne (List.eq_nil_of_length_eq_zero z)
          · rw [filt_some hne] at k
            exact k _ (s1.trans s2)
end
end My
namespace My
open PySem PySem.Spec PyProof.Rows L2
/-! ### drawn numbers, fractions, odd values -/
/-- a value whose kind no draw changes -/
inductive ShG (s c : Addr) (H : Hp) : V → Prop
  | non : ShG s c H .non
  | bl (b : Bool) : ShG s c H (.bl b)
  | int (i : Int) : ShG s c H (.int i)
  | str (x : Str) : ShG s c H (.str x)
  | lst {a : Addr} {xs : List V} (e : H a = some (.lst xs)) (n : a ≠ s ∧ a ≠ c) : ShG s c H (.ref a)
  | tup {a : Addr} {xs : List V} (e : H a = some (.tup xs)) (n : a ≠ s ∧ a ≠ c) : ShG s c H (.ref a)
  | dK {a : Addr} {kvs : List (Key × V)} (e : H a = some (.dK kvs)) (n : a ≠ s ∧ a ≠ c) : ShG s c H (.ref a)
theorem ShG.sh {s c : Addr} {H : Hp} {v : V} (h : ShG s c H v) : ∃ T, Sh H v T := by
  cases h with
  | non => exact ⟨_, .non⟩
  | bl b => exact ⟨_, .bl b⟩
  | int i => exact ⟨_, .int i⟩
  | str x => exact ⟨_, .str x⟩
  | lst e n => exact ⟨_, .lst e⟩
  | tup e n => exact ⟨_, .tup e⟩
  | dK e n => exact ⟨_, .dK e⟩
theorem ShG.keep {s c : Addr} {H H' : Hp} {v : V} (g : ∀ a o, a ≠ s → a ≠ c → H a = some o → H' a = some o) (h : ShG s c H v) : ShG s c H' v := by
  cases h with
  | non => exact .non
  | bl b => exact .bl b
  | int i => exact .int i
  | str x => exact .str x
  | lst e n => exact .lst (g _ _ n.1 n.2 e) n
  | tup e n => exact .tup (g _ _ n.1 n.2 e) n
  | dK e n => exact .dK (g _ _ n.1 n.2 e) n
structure OkV (s c : Addr) (H : Hp) (v : V) : Prop where
  sh : ShG s c H v
  it : ∀ a xs, v = .ref a → H a = some (.tup xs) → (∀ x ∈ xs, ShG s c H x) ∧ (∀ i, V.int i ∈ xs → Sz 400 i) ∧ xs.length ≤ 10
  sz : ∀ i, v = .int i → Sz 400 i
theorem OkV.keep {s c : Addr} {H H' : Hp} {v : V} (g : ∀ a o, a ≠ s → a ≠ c → H a = some o → H' a = some o) (h : OkV s c H v) : OkV s c H' v := by
  refine ⟨h.sh.keep g, fun a xs ev e => ?_, h.sz⟩
  subst ev
  have q : H a = some (.tup xs) := by
    cases h.sh with
    | lst e1 n => rw [g _ _ n.1 n.2 e1] at e; cases e
    | dK e1 n => rw [g _ _ n.1 n.2 e1] at e; cases e
    | tup e1 n => rw [g _ _ n.1 n.2 e1] at e; cases e; exact e1
  obtain ⟨h1, h2, h3⟩ := h.it a xs rfl q
  exact ⟨fun x hx => (h1 x hx).keep g, h2, h3⟩
theorem OkV.go {s c : Addr} {H H' : Hp} {v : V} (g : Go s c H H') (h : OkV s c H v) : OkV s c H' v := h.keep g.keep
theorem OkV.same {s c : Addr} {H H' : Hp} {v : V} (g : Same H H') (h : OkV s c H v) : OkV s c H' v := h.keep fun a o _ _ e => g a o e
theorem OkV.fr {s c : Addr} {H : Hp} {v : V} (h : OkV s c H v) : ∃ b, Fr H v b := by
  have z := h.it
  cases h.sh with
  | non => exact ⟨_, .inl ⟨_, .non, by decide, rfl⟩⟩
  | bl b => exact ⟨_, .inl ⟨_, .bl b, by decide, rfl⟩⟩
  | int i => exact ⟨_, .inl ⟨_, .int i, by decide, rfl⟩⟩
  | str x => exact ⟨_, .inl ⟨_, .str x, by decide, rfl⟩⟩
  | lst e n => exact ⟨_, .inl ⟨_, .lst e, by decide, rfl⟩⟩
  | dK e n => exact ⟨_, .inl ⟨_, .dK e, by decide, rfl⟩⟩
  | tup e n =>
    obtain ⟨h1, h2, h3⟩ := z _ _ rfl e
    exact ⟨_, .inr ⟨_, _, rfl, e, fun x hx => (h1 x hx).sh, h2, h3, rfl⟩⟩
theorem OkV.non {s c : Addr} {H : Hp} : OkV s c H .non := ⟨.non, (fun _ _ e => nomatch e), (fun _ e => nomatch e)⟩
theorem OkV.bl {s c : Addr} {H : Hp} (b : Bool) : OkV s c H (.bl b) := ⟨.bl b, (fun _ _ e => nomatch e), (fun _ e => nomatch e)⟩
theorem OkV.str {s c : Addr} {H : Hp} (b : Str) : OkV s c H (.str b) := ⟨.str b, (fun _ _ e => nomatch e), (fun _ e => nomatch e)⟩
theorem OkV.int {s c : Addr} {H : Hp} {i : Int} (h : Sz 400 i) : OkV s c H (.int i) := ⟨.int i, (fun _ _ e => nomatch e), (fun j e => by cases e; exact h)⟩
theorem OkV.newT {s c p : Addr} {H : Hp} {xs : List V} (S : Src H s c) (hp : H p = none) (h : ∀ x ∈ xs, ShG s c H x) (hz : ∀ i, V.int i ∈ xs → Sz 400 i) (hl : xs.length ≤ 10) : OkV s c (upd H p (.tup xs)) (.ref p) := by
  have n := S.ne_none hp
  refine ⟨.tup upd_same n, fun a ys e q => ?_, (fun i e => nomatch e)⟩
  cases e
  rw [upd_same] at q
  cases q
  exact ⟨fun x hx => (h x hx).keep fun a o _ _ e => same_new hp _ a o e, hz, hl⟩
theorem OkV.newL {s c p : Addr} {H : Hp} {xs : List V} (S : Src H s c) (hp : H p = none) : OkV s c (upd H p (.lst xs)) (.ref p) := by
  refine ⟨.lst upd_same (S.ne_none hp), fun a ys e q => ?_, (fun i e => nomatch e)⟩
  cases e
  rw [upd_same] at q
  cases q
theorem OkV.newD {s c p : Addr} {H : Hp} {xs : List (Key × V)} (S : Src H s c) (hp : H p = none) : OkV s c (upd H p (.dK xs)) (.ref p) := by
  refine ⟨.dK upd_same (S.ne_none hp), fun a ys e q => ?_, (fun i e => nomatch e)⟩
  cases e
  rw [upd_same] at q
  cases q
def spNumber : Sp := fun vs H Q _ => ∃ (s c : Addr), vs = [.ref s] ∧ Src H s c ∧ ∀ (n : Int) (H' : Hp), Sz 130 n → Go s c H H' → Q (.int n) H'
def spDrawn : Sp := fun vs H Q _ => ∃ (s c : Addr), vs = [.ref s] ∧ Src H s c ∧ ∀ (a b : Int) (p : Addr) (H' : Hp), 0 < b → Sz 130 a → Sz 130 b → Go s c H H' → H p = none → H' p = some (.tup (pair a b)) → Q (.ref p) H'
def spOdd : Sp := fun vs H Q _ => ∃ (s c : Addr), vs = [.ref s] ∧ Src H s c ∧ ∀ (v : V) (H' : Hp), OkV s c H' v → Go s c H H' → Q v H'
theorem sz_small {n : Nat} {x : Int} (h : x.natAbs < 64) (l : 6 ≤ n) : Sz n x := Sz.up (n := 6) (by show x.natAbs < 2 ^ 6; exact h) l
section
variable {P : Program} {w : World} {K : PySem.W.Frag} {mg : Str → Option Value} {base : Heap}
theorem great_sz {x : V} (h : x ∈ [V.int 1, V.int 1, V.int 1, V.int 6, V.int 35, V.int ((10 : Int) ^ (18 : Int).toNat + 9), V.int ((10 : Int) ^ (37 : Int).toNat)]) : ∃ g : Int, x = .int g ∧ Sz 124 g := by
  simp only [List.mem_cons, List.not_mem_nil, or_false] at h
  rcases h with rfl | rfl | rfl | rfl | rfl | rfl | rfl
  · exact ⟨_, rfl, by show Int.natAbs _ < 2 ^ 124; decide +kernel⟩
  · exact ⟨_, rfl, by show Int.natAbs _ < 2 ^ 124; decide +kernel⟩
  · exact ⟨_, rfl, by show Int.natAbs _ < 2 ^ 124; decide +kernel⟩
  · exact ⟨_, rfl, by show Int.natAbs _ < 2 ^ 124; decide +kernel⟩
  · exact ⟨_, rfl, by show Int.natAbs _ < 2 ^ 124; decide +kernel⟩
  · exact ⟨_, rfl, by show Int.natAbs _ < 2 ^ 124; decide +kernel⟩
  · exact ⟨_, rfl, by show Int.natAbs _ < 2 ^ 124; decide +kernel⟩
theorem tiny_sz {x : V} (h : x ∈ [V.int 0, V.int 0, V.int 1, V.int (-1)]) : ∃ g : Int, x = .int g ∧ g.natAbs < 64 := by
  simp only [List.mem_cons, List.not_mem_nil, or_false] at h
  rcases h with rfl | rfl | rfl | rfl <;> exact ⟨_, rfl, by decide⟩
theorem mem_at {xs : List V} {i : Nat} {x : V} (h : xs[i]? = some x) : x ∈ xs := List.mem_of_getElem? h
theorem ok_number (T : Tx K mg) : FnOk P w K mg base CX0 3 T.a_law_number T.fd_law_number ["_law_source_here"] spNumber := by
  refine T.F_law_number.ok sc_law_number (fun vs H Q E h => ?_) (fun cdv A outer st H vs Q E hr h => ?_)
  · obtain ⟨s, c, rfl, _⟩ := h
    rfl
  obtain ⟨s, c, rfl, hS, k⟩ := h
  have G_law_pick : FnOk P w K mg base CX0 1 T.a_law_pick T.fd_law_pick ["_law_source_here", "_law_many"] spPick := ok_pick T
  have G_law_of : FnOk P w K mg base CX0 2 T.a_law_of T.fd_law_of ["_law_source_here", "_law_some"] (spOf K) := ok_of T
  have hr_law_pick : Room 1 _ := hr.mono (by decide)
  have hr_law_of : Room 2 _ := hr
  refine ⟨_, ((pss_cons (ps_set (i := 1) sc_law_number.nd rfl (Or.inl rfl) (pe_call G_law_of hr_law_of rfl T.m_law_of T.F_law_of.kp T.b_law_of .nil pass0 (pa_cons (pv 0) (pa_cons (pe_lst (pa_cons pe_int (pa_cons pe_int (pa_cons pe_int (pa_cons pe_int (pa_cons pe_int (pa_cons (pe_op op_add (pe_op op_pow pe_int pe_int) pe_int) (pa_cons (pe_op op_pow pe_int pe_int) pa_nil)))))))) pa_nil))))
      (pss_one (ps_ret (pe_op op_add (pe_op op_mul (pe_op op_sub (pe_call G_law_pick hr_law_pick rfl T.m_law_pick T.F_law_pick.kp T.b_law_pick .nil pass0 (pa_cons (pv 0) (pa_cons pe_int pa_nil))) pe_int) (pv 1)) (pe_call G_law_of hr_law_of rfl T.m_law_of T.F_law_of.kp T.b_law_of .nil pass0 (pa_cons (pv 0) (pa_cons (pe_lst (pa_cons pe_int (pa_cons pe_int (pa_cons pe_int (pa_cons (pe_un un_neg pe_int) pa_nil))))) pa_nil)))))))), ?_⟩
  refine ⟨_, rfl, _, _, rfl, rfl, ⟨by decide, by decide, by decide⟩, _, _, rfl, rfl, _, _, rfl, rfl, ⟨by decide, by decide, by decide⟩, (by show 7 ≤ sizeLine; decide), fun p hp => ?_⟩
  have n1 := hS.ne_none hp
  refine ⟨s, c, p, _, rfl, hS.same (same_new hp _), upd_same, n1.2, (by show 1 ≤ 7; decide), (by show 7 < 1000000; decide), fun i x H1 hx g1 => ?_⟩
  obtain ⟨g, rfl, sg⟩ := great_sz (mem_at hx)
  have g01 : Go s c H H1 := (Go.of hS (same_new hp _)).trans g1
  refine ⟨_, rfl, s, c, 13, rfl, g1.src, by decide, by decide, fun j H2 j0 j1 g2 => ?_⟩
  refine ⟨_, _, rfl, rfl, _, rfl, _, _, rfl, rfl, .inl ⟨by omega, by omega⟩, ?_⟩
  refine ⟨_, rfl, _, rfl, (by show 4 ≤ sizeLine; decide), fun q hq => ?_⟩
  have n2 := g2.src.ne_none hq
  refine ⟨s, c, q, _, rfl, g2.src.same (same_new hq _), upd_same, n2.2, (by show 1 ≤ 4; decide), (by show 4 < 1000000; decide), fun i x H3 hx g3 => ?_⟩
  obtain ⟨e, rfl, se⟩ := tiny_sz (mem_at hx)
  refine ⟨_, _, rfl, rfl, k _ _ ?_ ((g01.trans g2).trans ((Go.of g2.src (same_new hq _)).trans g3))⟩
  have a1 : Sz 4 (j - 6) := by show (j - 6).natAbs < 2 ^ 4; omega
  exact ((a1.mul sg).add (sz_small se (by decide))).up (by decide)
theorem ok_drawn (T : Tx K mg) : FnOk P w K mg base CX0 4 T.a_law_drawn T.fd_law_drawn ["_law_source_here"] spDrawn := by
  refine T.F_law_drawn.ok sc_law_drawn (fun vs H Q E h => ?_) (fun cdv A outer st H vs Q E hr h => ?_)
  · obtain ⟨s, c, rfl, _⟩ := h
    rfl
  obtain ⟨s, c, rfl, hS, k⟩ := h
  have G_law_number : FnOk P w K mg base CX0 3 T.a_law_number T.fd_law_number ["_law_source_here"] spNumber := ok_number T
  have G_law_lowest : FnOk P w K mg base CX0 1 T.a_law_lowest T.fd_law_lowest ["_law_a", "_law_b"] spLow := ok_law_lowest T
  have hr_law_number : Room 3 _ := hr
  have hr_law_lowest : Room 1 _ := hr.mono (by decide)
  refine ⟨_, ((pss_cons (ps_set (i := 1) sc_law_drawn.nd rfl (Or.inl rfl) (pe_call G_law_number hr_law_number rfl T.m_law_number T.F_law_number.kp T.b_law_number .nil pass0 (pa_cons (pv 0) pa_nil)))
      (pss_one (ps_ret (pe_call G_law_lowest hr_law_lowest rfl T.m_law_lowest T.F_law_lowest.kp T.b_law_lowest .nil pass0 (pa_cons (pe_call G_law_number hr_law_number rfl T.m_law_number T.F_law_number.kp T.b_law_number .nil pass0 (pa_cons (pv 0) pa_nil)) (pa_cons (pe_ifExp (pt_cmpR op_ne (pv 1) pe_int (nomark _)) (pv 1) pe_int) pa_nil))))))), ?_⟩
  refine ⟨_, rfl, s, c, rfl, hS, fun b H1 sb g1 => ?_⟩
  refine ⟨_, rfl, s, c, rfl, g1.src, fun a H2 sa g2 => ?_⟩
  have last : ∀ b' : Int, b' ≠ 0 → Sz 130 b' → ∃ (x y : Int) (n : Nat), [V.int a, V.int b'] = [.int x, .int y] ∧ y ≠ 0 ∧ Sz n y ∧ 0 < n ∧ n ≤ 9000 ∧
      ∀ (p : Addr) (H' : Hp), Same H2 H' → H2 p = none → H' p = some (.tup (pair (low x y).1 (low x y).2)) → Q (.ref p) H' := by
    intro b' hb sb'
    refine ⟨a, b', 130, rfl, hb, sb', by decide, by decide, fun p H' s3 h0 h3 => ?_⟩
    have z := sz_low hb sa sb'
    have g := g1.trans g2
    exact k _ _ p H' (low_pos hb) z.1 z.2 (g.then s3) (g.free h0) h3
  refine ⟨_, rfl, rfl, _, rfl, iteN (fun hb => ?_) (fun hb => ?_)⟩
  · exact ⟨_, rfl, last b (fun z => hb (by rw [z])) sb⟩
  · exact last 4 (by decide) (sz_small (by decide) (by decide))
end
end My
namespace My
open PySem PySem.Spec PyProof.Rows L2
section
variable {P : Program} {w : World} {K : PySem.W.Frag} {mg : Str → Option Value} {base : Heap}
theorem forall_cons {α : Type} {p : α → Prop} {x : α} {xs : List α} (h : p x) (t : ∀ y ∈ xs, p y) : ∀ y ∈ x :: xs, p y := List.forall_mem_cons.mpr ⟨h, t⟩
theorem forall_nil {α : Type} {p : α → Prop} : ∀ y ∈ ([] : List α), p y := List.forall_mem_nil _
theorem ok_odd (T : Tx K mg) : FnOk P w K mg base CX0 3 T.a_law_odd T.fd_law_odd ["_law_source_here"] spOdd := by
  refine T.F_law_odd.ok sc_law_odd (fun vs H Q E h => ?_) (fun cdv A outer st H vs Q E hr h => ?_)
  · obtain ⟨s, c, rfl, _⟩ := h
    rfl
  obtain ⟨s, c, rfl, hS, k⟩ := h
  have G_law_of : FnOk P w K mg base CX0 2 T.a_law_of T.fd_law_of ["_law_source_here", "_law_some"] (spOf K) := ok_of T
  have hr_law_of : Room 2 _ := hr
  refine ⟨_, ((pss_cons (ps_set (i := 1) sc_law_odd.nd rfl (Or.inl rfl) (pe_lst (pa_cons pe_non (pa_cons pe_bl (pa_cons pe_bl (pa_cons (pe_un un_neg pe_int) (pa_cons pe_int (pa_cons (pe_op op_pow pe_int pe_int) (pa_cons pe_str (pa_cons pe_str (pa_cons pe_str (pa_cons (pe_tup pa_nil) (pa_cons (pe_lst pa_nil) (pa_cons pe_dnewK (pa_cons (pe_tup (pa_cons pe_non pa_nil)) (pa_cons (pe_lst (pa_cons (pe_tup pa_nil) pa_nil)) (pa_cons (pe_tup (pa_cons pe_int pa_nil)) (pa_cons (pe_tup (pa_cons pe_int (pa_cons pe_int pa_nil))) (pa_cons (pe_tup (pa_cons pe_str (pa_cons pe_int pa_nil))) pa_nil)))))))))))))))))))
      (pss_one (ps_ret (pe_call G_law_of hr_law_of rfl T.m_law_of T.F_law_of.kp T.b_law_of .nil pass0 (pa_cons (pv 0) (pa_cons (pe_op op_cat (pv 1) (pe_lst (pa_cons (pe_disp (pps_cons pe_int pe_int pps_nil) (by rfl) (by rfl) (fun z => by cases z) (by decide)) pa_nil))) pa_nil))))))), ?_⟩
  refine ⟨_, rfl, _, _, rfl, rfl, ⟨by decide, by decide, by decide⟩, Nat.zero_le _, fun p1 h1 => ?_⟩
  have s1 := same_new h1 (.tup [])
  have S1 := hS.same s1
  have o1 : OkV s c (upd H p1 (.tup [])) (.ref p1) := .newT hS h1 forall_nil (fun i h => nomatch h) (by decide)
  refine ⟨Nat.zero_le _, fun p2 h2 => fun p3 h3 => ⟨(by show 1 ≤ sizeLine; decide), fun p4 h4 => ⟨Nat.zero_le _, fun p5 h5 => ⟨(by show 1 ≤ sizeLine; decide), fun p6 h6 => ?_⟩⟩⟩⟩
  have s2 := same_new h2 (.lst [])
  have S2 := S1.same s2
  have o2 : OkV s c _ (.ref p2) := .newL S1 h2 (xs := [])
  have s3 := same_new h3 (.dK [])
  have S3 := S2.same s3
  have o3 : OkV s c _ (.ref p3) := .newD S2 h3 (xs := [])
  have s4 := same_new h4 (.tup [.non])
  have S4 := S3.same s4
  have o4 : OkV s c _ (.ref p4) := .newT S3 h4 (xs := [.non]) (forall_cons .non forall_nil) (fun i h => by simp at h) (by decide)
  have s5 := same_new h5 (.tup [])
  have S5 := S4.same s5
  have s6 := same_new h6 (.lst [.ref p5])
  have S6 := S5.same s6
  have o6 : OkV s c _ (.ref p6) := .newL S5 h6 (xs := [.ref p5])
  refine ⟨(by show 1 ≤ sizeLine; decide), fun p7 h7 => ⟨(by show 2 ≤ sizeLine; decide), fun p8 h8 => ⟨(by show 2 ≤ sizeLine; decide), fun p9 h9 => ⟨(by show 17 ≤ sizeLine; decide), fun p10 h10 => ?_⟩⟩⟩⟩
  have s7 := same_new h7 (.tup [.int 0])
  have S7 := S6.same s7
  have o7 : OkV s c _ (.ref p7) := .newT S6 h7 (xs := [.int 0]) (forall_cons (.int 0) forall_nil) (fun i h => by simp at h; subst h; exact sz_small (by decide) (by decide)) (by decide)
  have s8 := same_new h8 (.tup [.int 0, .int 0])
  have S8 := S7.same s8
  have o8 : OkV s c _ (.ref p8) := .newT S7 h8 (xs := [.int 0, .int 0]) (forall_cons (.int 0) (forall_cons (.int 0) forall_nil)) (fun i h => by simp at h; subst h; exact sz_small (by decide) (by decide)) (by decide)
  have s9 := same_new h9 (.tup [.str "x", .int 1])
  have S9 := S8.same s9
  have o9 : OkV s c _ (.ref p9) := .newT S8 h9 (xs := [.str "x", .int 1]) (forall_cons (.str "x") (forall_cons (.int 1) forall_nil)) (fun i h => by simp at h; subst h; exact sz_small (by decide) (by decide)) (by decide)
  have s10 := same_new h10 (.lst [.non, .bl true, .bl false, .int (-1), .int 7, .int ((10 : Int) ^ (30 : Int).toNat), .str "", .str "A", .str "x", .ref p1, .ref p2, .ref p3, .ref p4, .ref p6, .ref p7, .ref p8, .ref p9])
  have S10 := S9.same s10
  refine ⟨_, rfl, _, rfl, fun p11 h11 => ?_⟩
  have s11 := same_new h11 (.dK [])
  have S11 := S10.same s11
  have e12 : upd (upd (upd (upd (upd (upd (upd (upd (upd (upd (upd (upd H p1 (.tup [])) p2 (.lst [])) p3 (.dK [])) p4 (.tup [.non])) p5 (.tup [])) p6 (.lst [.ref p5])) p7 (.tup [.int 0])) p8 (.tup [.int 0, .int 0])) p9 (.tup [.str "x", .int 1])) p10 (.lst [.non, .bl true, .bl false, .int (-1), .int 7, .int ((10 : Int) ^ (30 : Int).toNat), .str "", .str "A", .str "x", .ref p1, .ref p2, .ref p3, .ref p4, .ref p6, .ref p7, .ref p8, .ref p9])) p11 (.dK [])) p11 (.dK [(.inl 0, .int 1)]) = upd (upd (upd (upd (upd (upd (upd (upd (upd (upd (upd H p1 (.tup [])) p2 (.lst [])) p3 (.dK [])) p4 (.tup [.non])) p5 (.tup [])) p6 (.lst [.ref p5])) p7 (.tup [.int 0])) p8 (.tup [.int 0, .int 0])) p9 (.tup [.str "x", .int 1])) p10 (.lst [.non, .bl true, .bl false, .int (-1), .int 7, .int ((10 : Int) ^ (30 : Int).toNat), .str "", .str "A", .str "x", .ref p1, .ref p2, .ref p3, .ref p4, .ref p6, .ref p7, .ref p8, .ref p9])) p11 (.dK [(.inl 0, .int 1)]) := upd_upd
  have em : mergeK [] [((.inl 0 : Key), V.int 1)] = [((.inl 0 : Key), V.int 1)] := rfl
  refine ⟨upd_same, [(.inl 0, .int 1)], rfl, by decide, ?_⟩
  rw [em, e12]
  have s12 := same_new h11 (.dK [(.inl 0, .int 1)])
  have S12 := S10.same s12
  have o12 : OkV s c _ (.ref p11) := .newD S10 h11 (xs := [(.inl 0, .int 1)])
  refine ⟨(by show 1 ≤ sizeLine; decide), fun p13 h13 => ?_⟩
  have s13 := same_new h13 (.lst [.ref p11])
  have S13 := S12.same s13
  refine ⟨p10, p13, _, _, rfl, rfl, s13 _ _ (s12 _ _ upd_same), upd_same, (by show 18 ≤ sizeLine; decide), fun p14 h14 => ?_⟩
  have s14 := same_new h14 (.lst ([.non, .bl true, .bl false, .int (-1), .int 7, .int ((10 : Int) ^ (30 : Int).toNat), .str "", .str "A", .str "x", .ref p1, .ref p2, .ref p3, .ref p4, .ref p6, .ref p7, .ref p8, .ref p9] ++ [.ref p11]))
  have S14 := S13.same s14
  have n14 := S13.ne_none h14
  refine ⟨s, c, p14, _, rfl, S14, upd_same, n14.2, (by show 1 ≤ 18; decide), (by show 18 < 1000000; decide), fun i x H1 hx g1 => ?_⟩
  have t9 := ((((s10.trans s12).trans s13).trans s14))
  have t8 := s9.trans t9
  have t7 := s8.trans t8
  have t6 := s7.trans t7
  have t4 := (s5.trans s6).trans t6
  have t3 := s4.trans t4
  have t2 := s3.trans t3
  have t1 := s2.trans t2
  have all : ∀ y ∈ ([.non, .bl true, .bl false, .int (-1), .int 7, .int ((10 : Int) ^ (30 : Int).toNat), .str "", .str "A", .str "x", .ref p1, .ref p2, .ref p3, .ref p4, .ref p6, .ref p7, .ref p8, .ref p9, .ref p11] : List V), OkV s c _ y :=
    forall_cons .non (forall_cons (.bl true) (forall_cons (.bl false) (forall_cons (.int (sz_small (by decide) (by decide))) (forall_cons (.int (sz_small (by decide) (by decide))) (forall_cons (.int (by show Int.natAbs _ < 2 ^ 400; decide +kernel)) (forall_cons (.str "") (forall_cons (.str "A") (forall_cons (.str "x")
      (forall_cons (o1.same t1) (forall_cons (o2.same t2) (forall_cons (o3.same t3) (forall_cons (o4.same t4) (forall_cons (o6.same t6) (forall_cons (o7.same t7) (forall_cons (o8.same t8) (forall_cons (o9.same t9) (forall_cons (o12.same (s13.trans s14)) forall_nil)))))))))))))))))
  exact k x H1 ((all x (mem_at hx)).go g1) ((Go.of hS (s1.trans t1)).trans g1)
end
end My
namespace My
open PySem PySem.Spec PyProof.Rows L2
theorem eqv_self (x y : Int) : PyData.eqv (.tuple [.int x, .int y]) (.tuple [.int x, .int y]) = true := by
  rw [eqv_pair, beq_self_eq_true, beq_self_eq_true]; rfl
theorem fracL_low {a b : Int} (h : b ≠ 0) : fracL (pair (low a b).1 (low a b).2) = true := by
  show (decide (1 ≤ (low a b).2) && (Nat.gcd (low a b).1.natAbs (low a b).2.natAbs == 1)) = true
  have p := low_pos (a := a) h
  rw [low_cop h, decide_eq_true (by omega : 1 ≤ (low a b).2)]
  rfl
theorem Src.upd {M : Hp} {s c D : Addr} {o : HO} (S : Src M s c) (n : D ≠ s ∧ D ≠ c) : Src (L2.upd M D o) s c := by
  obtain ⟨l, m, t, ns, h⟩ := S
  exact ⟨l, m, t, ns, by rw [upd_ne n.1.symm]; exact h.hs, by rw [upd_ne n.2.symm]; exact h.hc, h.l0, h.m0, h.m1, h.t0, h.n0, h.len⟩
theorem Go.mut {s c D : Addr} {H M : Hp} {o : HO} (g : Go s c H M) (h : H D = none) (n : D ≠ s ∧ D ≠ c) : Go s c H (upd M D o) := by
  refine ⟨fun a u h1 h2 e => ?_, g.src.upd n⟩
  rw [upd_ne (ne_of_none e h)]
  exact g.keep a u h1 h2 e
theorem FrOk.go {s c : Addr} {H H' : Hp} {t : Fr3} (S : Src H s c) (g : Go s c H H') (h : FrOk H t) : FrOk H' t := ⟨g.tup S h.1, h.2⟩
/-- the pair at p -/
structure PairAt (H : Hp) (p : Addr) (a b : Int) : Prop where
  at_ : H p = some (.tup (pair a b))
  pos : 0 < b
  s1 : Sz 130 a
  s2 : Sz 130 b
theorem PairAt.go {s c p : Addr} {H H' : Hp} {a b : Int} (S : Src H s c) (g : Go s c H H') (h : PairAt H p a b) : PairAt H' p a b := ⟨g.tup S h.at_, h.pos, h.s1, h.s2⟩
theorem PairAt.same {p : Addr} {H H' : Hp} {a b : Int} (g : Same H H') (h : PairAt H p a b) : PairAt H' p a b := ⟨g _ _ h.at_, h.pos, h.s1, h.s2⟩
theorem two_sz {u v : V} (hu : ∀ i, u = .int i → Sz 400 i) (hv : ∀ i, v = .int i → Sz 400 i) : ∀ i, V.int i ∈ [u, v] → Sz 400 i := by
  intro i h
  simp only [List.mem_cons, List.not_mem_nil, or_false] at h
  rcases h with h | h
  · exact hu i h.symm
  · exact hv i h.symm
theorem int_sz {j : Int} (h : Sz 400 j) : ∀ i, V.int j = .int i → Sz 400 i := fun i e => by cases e; exact h
theorem no_sz {v : V} (h : isI v = false) : ∀ i, v = .int i → Sz 400 i := fun i e => by subst e; cases h
theorem tiny (j : Int) (h : j.natAbs < 64) : ∀ i, V.int j = .int i → Sz 400 i := int_sz (sz_small h (by decide))
/-- a new pair of two values -/
theorem OkV.two {s c p : Addr} {H : Hp} {u v : V} (S : Src H s c) (hp : H p = none) (hu : ShG s c H u) (hv : ShG s c H v) (zu : ∀ i, u = .int i → Sz 400 i) (zv : ∀ i, v = .int i → Sz 400 i) : OkV s c (L2.upd H p (.tup [u, v])) (.ref p) :=
  .newT S hp (forall_cons hu (forall_cons hv forall_nil)) (two_sz zu zv) (by show 2 ≤ 10; decide)
section
variable {P : Program} {w : World} {K : PySem.W.Frag} {mg : Str → Option Value} {base : Heap}
theorem ok_law (T : Tx K mg) : FnOk P w K mg base CX0 6 T.a_law T.fd_law ["_law_script"] (spLaw K) := by
  refine T.F_law.ok sc_law (fun vs H Q E h => ?_) (fun cdv A outer st H vs Q E hr h => ?_)
  · obtain ⟨a, ns, rfl, _⟩ := h
    rfl
  obtain ⟨a0, ns0, rfl, hS0, hl0, k⟩ := h
  have G_law_source : FnOk P w K mg base CX0 1 T.a_law_source T.fd_law_source ["_law_script"] (spSource K) := ok_source T
  have G_law_number : FnOk P w K mg base CX0 3 T.a_law_number T.fd_law_number ["_law_source_here"] spNumber := ok_number T
  have G_law_drawn : FnOk P w K mg base CX0 4 T.a_law_drawn T.fd_law_drawn ["_law_source_here"] spDrawn := ok_drawn T
  have G_law_odd : FnOk P w K mg base CX0 3 T.a_law_odd T.fd_law_odd ["_law_source_here"] spOdd := ok_odd T
  have G_law_pick : FnOk P w K mg base CX0 1 T.a_law_pick T.fd_law_pick ["_law_source_here", "_law_many"] spPick := ok_pick T
  have G_lowest : FnOk P w K mg base CX0 1 T.a_lowest T.fd_lowest ["a", "b"] spLow := ok_lowest T
  have G_law_lowest : FnOk P w K mg base CX0 1 T.a_law_lowest T.fd_law_lowest ["_law_a", "_law_b"] spLow := ok_law_lowest T
  have G_is_fraction : FnOk P w K mg base CX0 2 T.a_is_fraction T.fd_is_fraction ["value"] spFrac := ok_is_fraction T
  have G_law_is_fraction : FnOk P w K mg base CX0 2 T.a_law_is_fraction T.fd_law_is_fraction ["_law_value"] spFrac := ok_law_is_fraction T
  have G_added : FnOk P w K mg base CX0 2 T.a_added T.fd_added ["one", "other"] (spTwo addF) := ok_added T
  have G_times : FnOk P w K mg base CX0 2 T.a_times T.fd_times ["one", "other"] (spTwo timesF) := ok_times T
  have G_row_sum : FnOk P w K mg base CX0 3 T.a_row_sum T.fd_row_sum ["row", "fractions"] (spSum K) := ok_row_sum T
  have G_law_row_sum : FnOk P w K mg base CX0 2 T.a_law_row_sum T.fd_law_row_sum ["_law_row", "_law_fractions"] (spSumL K) := ok_law_row_sum T
  have hr5 : Room 5 _ := hr
  have hr_law_source : Room 1 _ := hr.mono (by decide)
  have hr_law_number : Room 3 _ := hr.mono (by decide)
  have hr_law_drawn : Room 4 _ := hr.mono (by decide)
  have hr_law_odd : Room 3 _ := hr.mono (by decide)
  have hr_law_pick : Room 1 _ := hr.mono (by decide)
  have hr_lowest : Room 1 _ := hr.mono (by decide)
  have hr_law_lowest : Room 1 _ := hr.mono (by decide)
  have hr_is_fraction : Room 2 _ := hr.mono (by decide)
  have hr_law_is_fraction : Room 2 _ := hr.mono (by decide)
  have hr_added : Room 2 _ := hr.mono (by decide)
  have hr_times : Room 2 _ := hr.mono (by decide)
  have hr_row_sum : Room 3 _ := hr.mono (by decide)
  have hr_law_row_sum : Room 2 _ := hr.mono (by decide)
  refine ⟨_, ((pss_cons (ps_set (i := 1) sc_law.nd rfl (Or.inr rfl) (pe_call G_law_source hr_law_source rfl T.m_law_source T.F_law_source.kp T.b_law_source .nil pass0 (pa_cons (pv 0) pa_nil)))
      (pss_cons (ps_for PassesOwn.never rfl (pi_range1 rfl T.n_range (pa_cons pe_int pa_nil)) (pg_name (i := 2) sc_law.nd rfl (Or.inl rfl))
        (pss_cons (ps_par (i := 3) (j := 4) (by rfl) sc_law.nd rfl rfl (by decide) rfl rfl (pa_cons (pe_call G_law_number hr_law_number rfl T.m_law_number T.F_law_number.kp T.b_law_number .nil pass0 (pa_cons (pv 1) pa_nil)) (pa_cons (pe_call G_law_number hr_law_number rfl T.m_law_number T.F_law_number.kp T.b_law_number .nil pass0 (pa_cons (pv 1) pa_nil)) pa_nil)) (by rfl))
      (Evl.pss_cut (ps_set (i := 4) sc_law.nd rfl (Or.inl rfl) (pe_ifExp (pt_cmpR op_ne (pv 4) pe_int (nomark _)) (pv 4) (pe_un un_neg pe_int)))
      (Evl.pss_cut (ps_if (PW.pt (pw_or (pt_cmpR (op_neD hr.units) (pe_call G_lowest hr_lowest rfl T.m_lowest T.F_lowest.kp T.b_lowest .nil pass0 (pa_cons (pv 3) (pa_cons (pv 4) pa_nil))) (pe_call G_law_lowest hr_law_lowest rfl T.m_law_lowest T.F_law_lowest.kp T.b_law_lowest .nil pass0 (pa_cons (pv 3) (pa_cons (pv 4) pa_nil))) (nomark _)) (pw_or (pt_not (pt_val (pe_call G_is_fraction hr_is_fraction rfl T.m_is_fraction T.F_is_fraction.kp T.b_is_fraction .nil pass0 (pa_cons (pe_call G_lowest hr_lowest rfl T.m_lowest T.F_lowest.kp T.b_lowest .nil pass0 (pa_cons (pv 3) (pa_cons (pv 4) pa_nil))) pa_nil)))) (pw_or1 (pt_cmpR (op_neD hr.units) (pe_call G_lowest hr_lowest rfl T.m_lowest T.F_lowest.kp T.b_lowest .nil pass0 (pa_cons (pv 4) (pa_cons (pv 4) pa_nil))) (pe_tup (pa_cons pe_int (pa_cons pe_int pa_nil))) (nomark _))))))
        (pss_one (ps_ret pe_bl))
        pss_nil)
      (Evl.pss_cut (ps_par (i := 5) (j := 6) (by rfl) sc_law.nd rfl rfl (by decide) rfl rfl (pa_cons (pe_call G_law_drawn hr_law_drawn rfl T.m_law_drawn T.F_law_drawn.kp T.b_law_drawn .nil pass0 (pa_cons (pv 1) pa_nil)) (pa_cons (pe_call G_law_drawn hr_law_drawn rfl T.m_law_drawn T.F_law_drawn.kp T.b_law_drawn .nil pass0 (pa_cons (pv 1) pa_nil)) pa_nil)) (by rfl))
      (Evl.pss_cut (ps_if (pt_cmpR (op_neD hr.units) (pe_call G_added hr_added rfl T.m_added T.F_added.kp T.b_added .nil pass0 (pa_cons (pv 5) (pa_cons (pv 6) pa_nil))) (pe_call G_law_lowest hr_law_lowest rfl T.m_law_lowest T.F_law_lowest.kp T.b_law_lowest .nil pass0 (pa_cons (pe_op op_add (pe_op op_mulW (pe_ix ix_tup (pv 5) pe_int (fun _ _ => rfl)) (pe_ix ix_tup (pv 6) pe_int (fun _ _ => rfl))) (pe_op op_mulW (pe_ix ix_tup (pv 6) pe_int (fun _ _ => rfl)) (pe_ix ix_tup (pv 5) pe_int (fun _ _ => rfl)))) (pa_cons (pe_op op_mulW (pe_ix ix_tup (pv 5) pe_int (fun _ _ => rfl)) (pe_ix ix_tup (pv 6) pe_int (fun _ _ => rfl))) pa_nil))) (nomark _))
        (pss_one (ps_ret pe_bl))
        pss_nil)
      (Evl.pss_cut (ps_if (pt_cmpR (op_neD hr.units) (pe_call G_times hr_times rfl T.m_times T.F_times.kp T.b_times .nil pass0 (pa_cons (pv 5) (pa_cons (pv 6) pa_nil))) (pe_call G_law_lowest hr_law_lowest rfl T.m_law_lowest T.F_law_lowest.kp T.b_law_lowest .nil pass0 (pa_cons (pe_op op_mulW (pe_ix ix_tup (pv 5) pe_int (fun _ _ => rfl)) (pe_ix ix_tup (pv 6) pe_int (fun _ _ => rfl))) (pa_cons (pe_op op_mulW (pe_ix ix_tup (pv 5) pe_int (fun _ _ => rfl)) (pe_ix ix_tup (pv 6) pe_int (fun _ _ => rfl))) pa_nil))) (nomark _))
        (pss_one (ps_ret pe_bl))
        pss_nil)
      (pss_cons (ps_set (i := 7) sc_law.nd rfl (Or.inl rfl) (pe_call G_law_pick hr_law_pick rfl T.m_law_pick T.F_law_pick.kp T.b_law_pick .nil pass0 (pa_cons (pv 1) (pa_cons pe_int pa_nil))))
      (Evl.pss_cut (ps_par (i := 8) (j := 9) (by rfl) sc_law.nd rfl rfl (by decide) rfl rfl (pa_cons (pe_callTy call_tuple_of (by rfl) T.n_tuple (by decide +kernel) (pa_cons (pe_lc (own := [("_law_k", 13)]) (by rfl) sc_law.nd (pi_range1 rfl T.n_range (pa_cons (pv 7) pa_nil)) (blkOk_by (own := [("_law_k", 13)]) (N := ["_law_script", "_law_source_here", "_law_lap", "_law_a", "_law_b", "_law_one", "_law_other", "_law_many", "_law_row", "_law_some", "_law_odd_here", "_law_near", "_law_value", "_law_k"]) (sc := defScope s_law) (by decide +kernel)) (fun _ _ _ _ _ => pg_name (i := 13) sc_law.nd rfl (Or.inl rfl)) (fun _ _ _ _ _ => pts_nil) (fun _ _ _ _ _ => (pe_call G_law_number hr_law_number rfl T.m_law_number T.F_law_number.kp T.b_law_number .nil pass0 (pa_cons (pv 1) pa_nil)))) pa_nil)) (pa_cons (pe_lc (own := [("_law_k", 13)]) (by rfl) sc_law.nd (pi_range1 rfl T.n_range (pa_cons (pv 7) pa_nil)) (blkOk_by (own := [("_law_k", 13)]) (N := ["_law_script", "_law_source_here", "_law_lap", "_law_a", "_law_b", "_law_one", "_law_other", "_law_many", "_law_row", "_law_some", "_law_odd_here", "_law_near", "_law_value", "_law_k"]) (sc := defScope s_law) (by decide +kernel)) (fun _ _ _ _ _ => pg_name (i := 13) sc_law.nd rfl (Or.inl rfl)) (fun _ _ _ _ _ => pts_nil) (fun _ _ _ _ _ => (pe_call G_law_drawn hr_law_drawn rfl T.m_law_drawn T.F_law_drawn.kp T.b_law_drawn .nil pass0 (pa_cons (pv 1) pa_nil)))) pa_nil)) (by rfl))
      (Evl.pss_cut (ps_if (PW.pt (pw_or (pt_cmpR (op_neD hr.units) (pe_call G_row_sum hr_row_sum rfl T.m_row_sum T.F_row_sum.kp T.b_row_sum .nil pass0 (pa_cons (pv 8) (pa_cons (pv 9) pa_nil))) (pe_call G_law_row_sum hr_law_row_sum rfl T.m_law_row_sum T.F_law_row_sum.kp T.b_law_row_sum .nil pass0 (pa_cons (pv 8) (pa_cons (pv 9) pa_nil))) (nomark _)) (pw_or1 (pt_cmpR (op_neD hr.units) (pe_call G_row_sum hr_row_sum rfl T.m_row_sum T.F_row_sum.kp T.b_row_sum .nil pass0 (pa_cons (pe_callTy call_list_of (by rfl) T.n_list (by decide +kernel) (pa_cons (pv 8) pa_nil)) (pa_cons (pe_callTy call_tuple_of (by rfl) T.n_tuple (by decide +kernel) (pa_cons (pv 9) pa_nil)) pa_nil))) (pe_call G_law_row_sum hr_law_row_sum rfl T.m_law_row_sum T.F_law_row_sum.kp T.b_law_row_sum .nil pass0 (pa_cons (pv 8) (pa_cons (pv 9) pa_nil))) (nomark _)))))
        (pss_one (ps_ret pe_bl))
        pss_nil)
      (pss_cons (ps_set (i := 10) sc_law.nd rfl (Or.inl rfl) (pe_call G_law_odd hr_law_odd rfl T.m_law_odd T.F_law_odd.kp T.b_law_odd .nil pass0 (pa_cons (pv 1) pa_nil)))
      (Evl.pss_cut (ps_set (i := 11) sc_law.nd rfl (Or.inl rfl) (pe_lst (pa_cons (pv 5) (pa_cons (pe_callTy call_list_of (by rfl) T.n_list (by decide +kernel) (pa_cons (pv 5) pa_nil)) (pa_cons (pe_op op_catT (pv 5) (pe_tup (pa_cons pe_int pa_nil))) (pa_cons (pe_slice sl_tup (pv 5) po_none (po_some pe_int)) (pa_cons (pe_tup (pa_cons (pe_op op_mul (pe_ix ix_tup (pv 5) pe_int (fun _ _ => rfl)) pe_int) (pa_cons (pe_op op_mul (pe_ix ix_tup (pv 5) pe_int (fun _ _ => rfl)) pe_int) pa_nil))) (pa_cons (pe_tup (pa_cons (pe_ix ix_tup (pv 5) pe_int (fun _ _ => rfl)) (pa_cons (pe_op op_sub pe_int (pe_ix ix_tup (pv 5) pe_int (fun _ _ => rfl))) pa_nil))) (pa_cons (pe_tup (pa_cons (pv 10) (pa_cons pe_int pa_nil))) (pa_cons (pe_tup (pa_cons pe_int (pa_cons (pv 10) pa_nil))) (pa_cons (pv 10) (pa_cons (pe_tup (pa_cons pe_bl (pa_cons pe_int pa_nil))) (pa_cons (pe_tup (pa_cons pe_int (pa_cons pe_int pa_nil))) pa_nil)))))))))))))
      (pss_one (ps_for PassesOwn.never rfl (pi_list (pe_op op_cat (pv 11) (pe_lst (pa_cons (pe_tup (pa_cons pe_int (pa_cons pe_int pa_nil))) (pa_cons (pe_tup (pa_cons pe_int (pa_cons pe_int pa_nil))) (pa_cons (pe_tup (pa_cons pe_int (pa_cons pe_int pa_nil))) (pa_cons (pe_tup (pa_cons pe_int (pa_cons pe_bl pa_nil))) (pa_cons (pe_tup (pa_cons (pv 5) (pa_cons pe_int pa_nil))) (pa_cons pe_non (pa_cons (pe_tup (pa_cons pe_str (pa_cons pe_int pa_nil))) (pa_cons (pe_tup (pa_cons (pe_un un_neg pe_int) (pa_cons pe_int pa_nil))) (pa_cons (pe_tup (pa_cons (pe_op op_pow pe_int pe_int) (pa_cons (pe_op op_pow pe_int pe_int) pa_nil))) pa_nil)))))))))))) (pg_name (i := 12) sc_law.nd rfl (Or.inl rfl))
        (pss_one (ps_if (pt_cmpR op_ne (pe_callB call_repr_bl (by rfl) T.n_repr (by decide +kernel) (pa_cons (pe_call G_is_fraction hr_is_fraction rfl T.m_is_fraction T.F_is_fraction.kp T.b_is_fraction .nil pass0 (pa_cons (pv 12) pa_nil)) pa_nil)) (pe_callB call_repr_bl (by rfl) T.n_repr (by decide +kernel) (pa_cons (pe_call G_law_is_fraction hr_law_is_fraction rfl T.m_law_is_fraction T.F_law_is_fraction.kp T.b_law_is_fraction .nil pass0 (pa_cons (pv 12) pa_nil)) pa_nil)) (nomark _))
        (pss_one (ps_ret pe_bl))
        pss_nil))))))))))))))))
      (pss_one (ps_ret (pe_cmpR (op_eqD hr.units) (pe_lst (pa_cons (pe_call G_lowest hr_lowest rfl T.m_lowest T.F_lowest.kp T.b_lowest .nil pass0 (pa_cons pe_int (pa_cons (pe_un un_neg pe_int) pa_nil))) (pa_cons (pe_call G_lowest hr_lowest rfl T.m_lowest T.F_lowest.kp T.b_lowest .nil pass0 (pa_cons pe_int (pa_cons (pe_un un_neg pe_int) pa_nil))) (pa_cons (pe_call G_added hr_added rfl T.m_added T.F_added.kp T.b_added .nil pass0 (pa_cons (pe_tup (pa_cons pe_int (pa_cons pe_int pa_nil))) (pa_cons (pe_tup (pa_cons (pe_un un_neg pe_int) (pa_cons pe_int pa_nil))) pa_nil))) (pa_cons (pe_call G_times hr_times rfl T.m_times T.F_times.kp T.b_times .nil pass0 (pa_cons (pe_tup (pa_cons pe_int (pa_cons pe_int pa_nil))) (pa_cons (pe_tup (pa_cons pe_int (pa_cons pe_int pa_nil))) pa_nil))) (pa_cons (pe_call G_row_sum hr_row_sum rfl T.m_row_sum T.F_row_sum.kp T.b_row_sum .nil pass0 (pa_cons (pe_tup pa_nil) (pa_cons (pe_tup pa_nil) pa_nil))) pa_nil)))))) (pe_lst (pa_cons (pe_tup (pa_cons (pe_un un_neg pe_int) (pa_cons pe_int pa_nil))) (pa_cons (pe_tup (pa_cons pe_int (pa_cons pe_int pa_nil))) (pa_cons (pe_tup (pa_cons pe_int (pa_cons pe_int pa_nil))) (pa_cons (pe_tup (pa_cons pe_int (pa_cons pe_int pa_nil))) (pa_cons (pe_tup (pa_cons pe_int (pa_cons pe_int pa_nil))) pa_nil)))))) (nomark _))))))), ?_⟩
  refine ⟨_, rfl, a0, ns0, rfl, hS0, hl0, fun s c H1 s1 _ _ src1 => ?_⟩
  refine ⟨_, rfl, by decide, by decide, for_range (lo := 0) (n := 6) (fun i σ M => ∃ v2 v3 v4 v5 v6 v7 v8 v9 v10 v11 v12 v13 : Option V, σ = [some (.ref a0), some (.ref s), v2, v3, v4, v5, v6, v7, v8, v9, v10, v11, v12, v13] ∧ Src M s c)
    ⟨none, none, none, none, none, none, none, none, none, none, none, none, rfl, src1⟩ ?_ ?_⟩
  · rintro i σ M hi ⟨v2, v3, v4, v5, v6, v7, v8, v9, v10, v11, v12, v13, rfl, S⟩
    -- a, b
    refine ⟨_, rfl, s, c, rfl, S, fun a H1 sa g1 => ⟨_, rfl, s, c, rfl, g1.src, fun b0 H2 sb0 g2 => ⟨_, _, rfl, ?_⟩⟩⟩
    refine ⟨fun σ' M' => ∃ b : Int, σ' = [some (.ref a0), some (.ref s), some (.int (0 + (i : Int))), some (.int a), some (.int b), v5, v6, v7, v8, v9, v10, v11, v12, v13] ∧ Src M' s c ∧ b ≠ 0 ∧ Sz 130 b, ?_, ?_⟩
    · refine ⟨_, rfl, rfl, _, rfl, iteN (fun hb => ?_) (fun hb => ?_)⟩
      · exact ⟨_, rfl, b0, rfl, g2.src, fun z => hb (by rw [z]), sb0⟩
      · exact ⟨_, rfl, -6, rfl, g2.src, by decide, sz_small (by decide) (by decide)⟩
    rintro σ M ⟨b, rfl, S, hb, sb⟩
    -- if lowest(a, b) != ..
    refine ⟨fun σ' M' => σ' = [some (.ref a0), some (.ref s), some (.int (0 + (i : Int))), some (.int a), some (.int b), v5, v6, v7, v8, v9, v10, v11, v12, v13] ∧ Src M' s c, ?_, ?_⟩
    · refine ⟨_, rfl, _, rfl, a, b, 130, rfl, hb, sb, by decide, by decide, fun p1 H1 s1 h1 e1 => ?_⟩
      refine ⟨_, rfl, _, rfl, a, b, 130, rfl, hb, sb, by decide, by decide, fun p2 H2 s2 h2 e2 => ?_⟩
      refine ⟨_, _, Dp.pair (s2 _ _ e1), Dp.pair e2, rfl, rfl, ?_⟩
      rw [eqv_self]
      refine ⟨_, rfl, ?_⟩
      refine ⟨_, rfl, _, rfl, a, b, 130, rfl, hb, sb, by decide, by decide, fun p3 H3 s3 h3 e3 => ?_⟩
      have z := sz_low hb sa sb
      refine ⟨.ref p3, true, rfl, .inr ⟨p3, _, rfl, e3, ?_, ?_, (by show 2 ≤ 10; decide), (fracL_low hb).symm⟩, fun H4 s4 => ?_⟩
      · intro x hx
        simp only [pair, List.mem_cons, List.not_mem_nil, or_false] at hx
        rcases hx with rfl | rfl <;> exact ⟨_, .int _⟩
      · intro x hx
        simp only [pair, List.mem_cons, List.not_mem_nil, or_false, V.int.injEq] at hx
        rcases hx with rfl | rfl
        · exact z.1.up (by decide)
        · exact z.2.up (by decide)
      refine ⟨_, rfl, ?_⟩
      refine ⟨_, rfl, _, rfl, b, b, 130, rfl, hb, sb, by decide, by decide, fun p5 H5 s5 h5 e5 => ⟨(by show 2 ≤ sizeLine; decide), fun p6 h6 => ?_⟩⟩
      rw [low_self hb] at e5
      refine ⟨_, _, Dp.pair (same_new h6 _ _ _ e5), Dp.pair (a := 1) (b := 1) upd_same, rfl, rfl, ?_⟩
      rw [eqv_self]
      exact ⟨_, rfl, rfl, S.same (((((s1.trans s2).trans s3).trans s4).trans s5).trans (same_new h6 _))⟩
    rintro σ M ⟨rfl, S⟩
    -- one, other
    refine ⟨fun σ' M' => ∃ (p q : Addr) (x y u v : Int), σ' = [some (.ref a0), some (.ref s), some (.int (0 + (i : Int))), some (.int a), some (.int b), some (.ref p), some (.ref q), v7, v8, v9, v10, v11, v12, v13] ∧ Src M' s c ∧ PairAt M' p x y ∧ PairAt M' q u v, ?_, ?_⟩
    · refine ⟨_, rfl, s, c, rfl, S, fun x y p H1 y0 sx sy g1 h1 e1 => ⟨_, rfl, s, c, rfl, g1.src, fun u v q H2 v0 su sv g2 h2 e2 => ⟨_, _, rfl, ?_⟩⟩⟩
      exact ⟨p, q, x, y, u, v, rfl, g2.src, PairAt.go g1.src g2 ⟨e1, y0, sx, sy⟩, ⟨e2, v0, su, sv⟩⟩
    rintro σ M ⟨p, q, x, y, u, v, rfl, S, hp, hq⟩
    have hy : y ≠ 0 := Int.ne_of_gt hp.pos
    have hv : v ≠ 0 := Int.ne_of_gt hq.pos
    have hyv : y * v ≠ 0 := Int.mul_ne_zero hy hv
    have m1 : CMulW x v := hp.s1.cmul hq.s2 (by decide) (by decide) (by decide)
    have m2 : CMulW u y := hq.s1.cmul hp.s2 (by decide) (by decide) (by decide)
    have m3 : CMulW y v := hp.s2.cmul hq.s2 (by decide) (by decide) (by decide)
    have m4 : CMulW x u := hp.s1.cmul hq.s1 (by decide) (by decide) (by decide)
    -- added
    refine ⟨fun σ' M' => σ' = [some (.ref a0), some (.ref s), some (.int (0 + (i : Int))), some (.int a), some (.int b), some (.ref p), some (.ref q), v7, v8, v9, v10, v11, v12, v13] ∧ Same M M', ?_, ?_⟩
    · refine ⟨_, rfl, _, rfl, p, q, x, y, u, v, 130, 130, rfl, hp.at_, hq.at_, hy, hv, hp.s1, hp.s2, hq.s1, hq.s2, by decide, by decide, by decide, fun r1 H1 s1 h1 e1 => ?_⟩
      have hp1 := s1 _ _ hp.at_
      have hq1 := s1 _ _ hq.at_
      refine ⟨_, rfl, p, _, _, _, rfl, rfl, SqT.of hp1, at0 x y, _, rfl, q, _, _, _, rfl, rfl, SqT.of hq1, at1 u v, _, _, rfl, rfl, m1, ?_⟩
      refine ⟨_, rfl, q, _, _, _, rfl, rfl, SqT.of hq1, at0 u v, _, rfl, p, _, _, _, rfl, rfl, SqT.of hp1, at1 x y, _, _, rfl, rfl, m2, _, _, rfl, rfl, ?_⟩
      refine ⟨_, rfl, p, _, _, _, rfl, rfl, SqT.of hp1, at1 x y, _, rfl, q, _, _, _, rfl, rfl, SqT.of hq1, at1 u v, _, _, rfl, rfl, m3, ?_⟩
      refine ⟨_, _, 260, rfl, hyv, hp.s2.mul hq.s2, by decide, by decide, fun r2 H2 s2 h2 e2 => ?_⟩
      refine ⟨_, _, Dp.pair (s2 _ _ e1), Dp.pair e2, rfl, rfl, ?_⟩
      have e : PyData.eqv (.tuple [.int (addF x y u v).1, .int (addF x y u v).2]) (.tuple [.int (low (x * v + u * y) (y * v)).1, .int (low (x * v + u * y) (y * v)).2]) = true := eqv_self _ _
      rw [e]
      exact ⟨_, rfl, rfl, s1.trans s2⟩
    rintro σ M1 ⟨rfl, t1⟩
    have S := S.same t1
    have hp := hp.same t1
    have hq := hq.same t1
    -- times
    refine ⟨fun σ' M' => σ' = [some (.ref a0), some (.ref s), some (.int (0 + (i : Int))), some (.int a), some (.int b), some (.ref p), some (.ref q), v7, v8, v9, v10, v11, v12, v13] ∧ Same M1 M', ?_, ?_⟩
    · refine ⟨_, rfl, _, rfl, p, q, x, y, u, v, 130, 130, rfl, hp.at_, hq.at_, hy, hv, hp.s1, hp.s2, hq.s1, hq.s2, by decide, by decide, by decide, fun r1 H1 s1 h1 e1 => ?_⟩
      have hp1 := s1 _ _ hp.at_
      have hq1 := s1 _ _ hq.at_
      refine ⟨_, rfl, p, _, _, _, rfl, rfl, SqT.of hp1, at0 x y, _, rfl, q, _, _, _, rfl, rfl, SqT.of hq1, at0 u v, _, _, rfl, rfl, m4, ?_⟩
      refine ⟨_, rfl, p, _, _, _, rfl, rfl, SqT.of hp1, at1 x y, _, rfl, q, _, _, _, rfl, rfl, SqT.of hq1, at1 u v, _, _, rfl, rfl, m3, ?_⟩
      refine ⟨_, _, 260, rfl, hyv, hp.s2.mul hq.s2, by decide, by decide, fun r2 H2 s2 h2 e2 => ?_⟩
      refine ⟨_, _, Dp.pair (s2 _ _ e1), Dp.pair e2, rfl, rfl, ?_⟩
      have e : PyData.eqv (.tuple [.int (timesF x y u v).1, .int (timesF x y u v).2]) (.tuple [.int (low (x * u) (y * v)).1, .int (low (x * u) (y * v)).2]) = true := eqv_self _ _
      rw [e]
      exact ⟨_, rfl, rfl, s1.trans s2⟩
    rintro σ M2 ⟨rfl, t2⟩
    have S := S.same t2
    have hp := hp.same t2
    have hq := hq.same t2
    -- many, row, some
    refine ⟨_, rfl, s, c, 6, rfl, S, by decide, by decide, fun m M3 m0 m6 g3 => ?_⟩
    have hp := hp.go S g3
    refine ⟨fun σ' M' => ∃ (pr ps : Addr) (ns : List Int) (ts : List Fr3), σ' = [some (.ref a0), some (.ref s), some (.int (0 + (i : Int))), some (.int a), some (.int b), some (.ref p), some (.ref q), some (.int m), some (.ref pr), some (.ref ps), v10, v11, v12, v13] ∧
      Src M' s c ∧ PairAt M' p x y ∧ M' pr = some (.tup (ns.map V.int)) ∧ M' ps = some (.lst (ts.map frV)) ∧ ps ≠ c ∧ ns.length = ts.length ∧ ns.length ≤ 6 ∧ (∀ n ∈ ns, Sz 130 n) ∧ (∀ t ∈ ts, FrOk M' t), ?_, ?_⟩
    · refine ⟨_, rfl, m, rfl, by omega, by omega, fun D hD => ?_⟩
      have nD := g3.src.ne_none hD
      refine lc_range (lo := 0) (n := m.toNat) (fun j M' => ∃ ns : List Int, ns.length = j ∧ (∀ n ∈ ns, Sz 130 n) ∧ M' D = some (.lst (ns.map V.int)) ∧ Go s c M3 M') ⟨[], rfl, forall_nil, upd_same, Go.of g3.src (same_new hD _)⟩ ?_ ?_
      · rintro j M' hj ⟨ns, en, hz, eD, g⟩
        refine ⟨rfl, ?_⟩
        refine ⟨_, rfl, s, c, rfl, g.src, fun n M'' sn g' => ⟨_, g'.keep _ _ nD.1 nD.2 eD, ?_, ns ++ [n], ?_, ?_, ?_, (g.trans g').mut hD nD⟩⟩
        · rw [List.length_map]; exact small1000 (by omega)
        · rw [List.length_append, en]; rfl
        · intro n' hn'
          rcases List.mem_append.mp hn' with h | h
          · exact hz n' h
          · rw [List.mem_singleton.mp h]; exact sn
        · rw [upd_same, List.map_append]; rfl
      · rintro M4 ⟨ns, en, hz, eD, g4⟩
        refine ⟨D, _, rfl, .inl ⟨SqL.of eD, fun pr hpr => ?_⟩⟩
        have s5 := same_new hpr (.tup (ns.map V.int))
        have S5 := g4.src.same s5
        have hp5 := (hp.go g3.src g4).same s5
        refine ⟨_, rfl, m, rfl, by omega, by omega, fun D2 hD2 => ?_⟩
        have nD2 := S5.ne_none hD2
        refine lc_range (lo := 0) (n := m.toNat) (fun j M' => ∃ ts : List Fr3, ts.length = j ∧ (∀ t ∈ ts, FrOk M' t) ∧ M' D2 = some (.lst (ts.map frV)) ∧ Go s c (upd M4 pr (.tup (ns.map V.int))) M') ⟨[], rfl, forall_nil, upd_same, Go.of S5 (same_new hD2 _)⟩ ?_ ?_
        · rintro j M' hj ⟨ts, et, hz2, eD2, g⟩
          refine ⟨rfl, ?_⟩
          refine ⟨_, rfl, s, c, rfl, g.src, fun x' y' p' M'' y0 sx sy g' h' e' => ⟨_, g'.keep _ _ nD2.1 nD2.2 eD2, ?_, ts ++ [(p', x', y')], ?_, ?_, ?_, (g.trans g').mut hD2 nD2⟩⟩
          · rw [List.length_map]; exact small1000 (by omega)
          · rw [List.length_append, et]; rfl
          · have nt : ∀ t : Addr × Int × Int, FrOk M'' t → FrOk (L2.upd M'' D2 (.lst (ts.map frV ++ [V.ref p']))) t := fun t ht => by
              refine ⟨?_, ht.2⟩
              rw [upd_ne (ne_of ht.1 (g'.keep _ _ nD2.1 nD2.2 eD2) (by intro z; cases z))]
              exact ht.1
            intro t ht
            rcases List.mem_append.mp ht with h | h
            · exact nt t ((hz2 t h).go g.src g')
            · rw [List.mem_singleton.mp h]
              exact nt _ ⟨e', Int.ne_of_gt y0, sx, sy⟩
          · rw [upd_same, List.map_append]; rfl
        · rintro M6 ⟨ts, et, hz2, eD2, g6⟩
          refine ⟨_, _, rfl, pr, D2, ns, ts, rfl, g6.src, hp5.go S5 g6, g6.tup S5 upd_same, eD2, nD2.2, by omega, by omega, hz, hz2⟩
    rintro σ M7 ⟨pr, ps, ns, ts, rfl, S, hp, epr, eps, nps, hl, h6, hz, hz2⟩
    -- row_sum
    refine ⟨fun σ' M' => σ' = [some (.ref a0), some (.ref s), some (.int (0 + (i : Int))), some (.int a), some (.int b), some (.ref p), some (.ref q), some (.int m), some (.ref pr), some (.ref ps), v10, v11, v12, v13] ∧ Same M7 M', ?_, ?_⟩
    · refine ⟨_, rfl, _, rfl, true, false, pr, ps, ns, ts, rfl, SqT.of epr, SqL.of eps, hl, h6, hz, hz2, fun r1 H1 s1 e1 => ?_⟩
      refine ⟨_, rfl, _, rfl, pr, ps, ns, ts, rfl, SqT.of (s1 _ _ epr), SqL.of (s1 _ _ eps), hl, h6, hz, fun t ht => (hz2 t ht).same s1, fun r2 H2 s2 e2 => ?_⟩
      refine ⟨_, _, Dp.pair (s2 _ _ e1), Dp.pair e2, rfl, rfl, ?_⟩
      rw [eqv_self]
      refine ⟨_, rfl, ?_⟩
      have s12 := s1.trans s2
      refine ⟨_, rfl, pr, _, rfl, .inr (SqT.of (s12 _ _ epr)), fun l1 hl1 => ?_⟩
      have s3 := same_new hl1 (.lst (ns.map V.int))
      refine ⟨_, rfl, ps, _, rfl, .inl ⟨SqL.of (s3 _ _ (s12 _ _ eps)), fun l2 hl2 => ?_⟩⟩
      have s4 := same_new hl2 (.tup (ts.map frV))
      have s14 := (s12.trans s3).trans s4
      refine ⟨false, true, l1, l2, ns, ts, rfl, SqL.of (s4 _ _ upd_same), SqT.of upd_same, hl, h6, hz, fun t ht => (hz2 t ht).same s14, fun r5 H5 s5 e5 => ?_⟩
      have s15 := s14.trans s5
      refine ⟨_, rfl, _, rfl, pr, ps, ns, ts, rfl, SqT.of (s15 _ _ epr), SqL.of (s15 _ _ eps), hl, h6, hz, fun t ht => (hz2 t ht).same s15, fun r6 H6 s6 e6 => ?_⟩
      refine ⟨_, _, Dp.pair (s6 _ _ e5), Dp.pair e6, rfl, rfl, ?_⟩
      rw [eqv_self]
      exact ⟨_, rfl, rfl, s15.trans s6⟩
    rintro σ M8 ⟨rfl, t8⟩
    have S := S.same t8
    have hp := hp.same t8
    -- odd
    refine ⟨_, rfl, s, c, rfl, S, fun o M9 ho g9 => ?_⟩
    have hp := hp.go S g9
    have S := g9.src
    have px := hp.s1.up (m := 400) (by decide)
    have py := hp.s2.up (m := 400) (by decide)
    have okp : OkV s c M9 (.ref p) := by
      have n := S.ne_tup hp.at_
      refine ⟨.tup hp.at_ n, fun a' xs e q' => ?_, (fun i e => nomatch e)⟩
      cases e
      rw [hp.at_] at q'
      cases q'
      exact ⟨forall_cons (.int x) (forall_cons (.int y) forall_nil), two_sz (int_sz px) (int_sz py), by show 2 ≤ 10; decide⟩
    -- near
    refine ⟨fun σ' M' => ∃ (pn : Addr) (near : List V), σ' = [some (.ref a0), some (.ref s), some (.int (0 + (i : Int))), some (.int a), some (.int b), some (.ref p), some (.ref q), some (.int m), some (.ref pr), some (.ref ps), some o, some (.ref pn), v12, v13] ∧ Same M9 M' ∧ M' pn = some (.lst near) ∧ near.length = 11 ∧ ∀ z ∈ near, OkV s c M' z, ?_, ?_⟩
    · refine ⟨_, rfl, _, rfl, p, _, rfl, .inr (SqT.of hp.at_), fun l1 hl1 => ?_⟩
      have s1 := same_new hl1 (.lst (pair x y))
      have S1 := S.same s1
      have o1 : OkV s c _ (.ref l1) := .newL S hl1 (xs := pair x y)
      have e1 := s1 _ _ hp.at_
      refine ⟨_, rfl, (by show 1 ≤ sizeLine; decide), fun t1 ht1 => ?_⟩
      have s2 := same_new ht1 (.tup [.int 1])
      have S2 := S1.same s2
      have e2 := s2 _ _ e1
      refine ⟨p, t1, _, _, rfl, rfl, SqT.of e2, SqT.of upd_same, List.cons_ne_nil _ _, (by show 2 + 1 ≤ sizeLine; decide), (fun h => absurd h (List.cons_ne_nil _ _)), fun _ t2 ht2 => ?_⟩
      have s3 := same_new ht2 (.tup (pair x y ++ [.int 1]))
      have S3 := S2.same s3
      have o2 : OkV s c _ (.ref t2) := .newT S2 ht2 (xs := [.int x, .int y, .int 1]) (forall_cons (.int x) (forall_cons (.int y) (forall_cons (.int 1) forall_nil))) (fun i' h => by
        simp only [List.mem_cons, List.not_mem_nil, or_false, V.int.injEq] at h
        rcases h with rfl | rfl | rfl
        · exact px
        · exact py
        · exact sz_small (by decide) (by decide)) (by show 3 ≤ 10; decide)
      have e3 := s3 _ _ e2
      refine ⟨_, rfl, 1, rfl, p, _, rfl, SqT.of e3, (by show ¬ (HT.sIx 2 0 none = 0 ∧ HT.sIx 2 2 (some 1) = 2); decide), fun t3 ht3 => ?_⟩
      have s4 := same_new ht3 (.tup (cutV (pair x y) none (some 1)))
      have S4 := S3.same s4
      have o3 : OkV s c _ (.ref t3) := .newT S3 ht3 (xs := [.int x]) (forall_cons (.int x) forall_nil) (fun i' h => by
        simp only [List.mem_cons, List.not_mem_nil, or_false, V.int.injEq] at h
        subst h
        exact px) (by show 1 ≤ 10; decide)
      have e4 := s4 _ _ e3
      refine ⟨_, rfl, p, _, _, _, rfl, rfl, SqT.of e4, at0 x y, _, _, rfl, rfl, .inr ⟨by decide, by decide⟩, _, rfl, p, _, _, _, rfl, rfl, SqT.of e4, at1 x y, _, _, rfl, rfl, .inr ⟨by decide, by decide⟩, (by show 2 ≤ sizeLine; decide), fun t4 ht4 => ?_⟩
      have s5 := same_new ht4 (.tup [.int (x * 2), .int (y * 2)])
      have S5 := S4.same s5
      have two : Sz 2 (2 : Int) := by show 2 < 2 ^ 2; decide
      have o4 : OkV s c _ (.ref t4) := .two S4 ht4 (.int (x * 2)) (.int (y * 2)) (int_sz ((hp.s1.mul two).up (by decide))) (int_sz ((hp.s2.mul two).up (by decide)))
      have e5 := s5 _ _ e4
      refine ⟨_, rfl, p, _, _, _, rfl, rfl, SqT.of e5, at0 x y, _, rfl, p, _, _, _, rfl, rfl, SqT.of e5, at1 x y, _, _, rfl, rfl, (by show 2 ≤ sizeLine; decide), fun t5 ht5 => ?_⟩
      have s6 := same_new ht5 (.tup [.int x, .int (0 - y)])
      have S6 := S5.same s6
      have o5 : OkV s c _ (.ref t5) := .two S5 ht5 (.int x) (.int (0 - y)) (int_sz px) (int_sz (py.le (by omega)))
      have s16 := ((((s1.trans s2).trans s3).trans s4).trans s5).trans s6
      have ho6 := ho.same s16
      refine ⟨_, rfl, (by show 2 ≤ sizeLine; decide), fun t6 ht6 => ?_⟩
      have s7 := same_new ht6 (.tup [o, .int 1])
      have S7 := S6.same s7
      have o6 : OkV s c _ (.ref t6) := .two S6 ht6 ho6.sh (.int 1) ho.sz (tiny 1 (by decide))
      have ho7 := ho6.same s7
      refine ⟨_, rfl, (by show 2 ≤ sizeLine; decide), fun t7 ht7 => ?_⟩
      have s8 := same_new ht7 (.tup [.int 1, o])
      have S8 := S7.same s8
      have o7 : OkV s c _ (.ref t7) := .two S7 ht7 (.int 1) ho7.sh (tiny 1 (by decide)) ho.sz
      have ho8 := ho7.same s8
      refine ⟨_, rfl, (by show 2 ≤ sizeLine; decide), fun t8 ht8 => ?_⟩
      have s9 := same_new ht8 (.tup [.bl true, .int 1])
      have S9 := S8.same s9
      have o8 : OkV s c _ (.ref t8) := .two S8 ht8 (.bl true) (.int 1) (no_sz rfl) (tiny 1 (by decide))
      refine ⟨(by show 2 ≤ sizeLine; decide), fun t9 ht9 => ?_⟩
      have s10 := same_new ht9 (.tup [.int 0, .int 2])
      have S10 := S9.same s10
      have o9 : OkV s c _ (.ref t9) := .two S9 ht9 (.int 0) (.int 2) (tiny 0 (by decide)) (tiny 2 (by decide))
      refine ⟨(by show 11 ≤ sizeLine; decide), fun pn hpn => ?_⟩
      have s11 := same_new hpn (.lst [.ref p, .ref l1, .ref t2, .ref t3, .ref t4, .ref t5, .ref t6, .ref t7, o, .ref t8, .ref t9])
      have r9 := s10.trans s11
      have r8 := s9.trans r9
      have r7 := s8.trans r8
      have r6 := s7.trans r7
      have r5 := s6.trans r6
      have r4 := s5.trans r5
      have r3 := s4.trans r4
      have r2 := (s2.trans s3).trans r3
      have r1 := s1.trans r2
      refine ⟨pn, [.ref p, .ref l1, .ref t2, .ref t3, .ref t4, .ref t5, .ref t6, .ref t7, o, .ref t8, .ref t9], rfl, r1, upd_same, rfl, ?_⟩
      exact forall_cons (okp.same r1) (forall_cons (o1.same r2) (forall_cons (o2.same r3) (forall_cons (o3.same r4) (forall_cons (o4.same r5) (forall_cons (o5.same r6) (forall_cons (o6.same r7) (forall_cons (o7.same r8) (forall_cons (ho.same r1) (forall_cons (o8.same r9) (forall_cons (o9.same s11) forall_nil))))))))))
    rintro σ M10 ⟨pn, near, rfl, s10, epn, ln, okn⟩
    have S := S.same s10
    have hp := hp.same s10
    have okp := okp.same s10
    -- the values
    refine ⟨_, rfl, (by show 2 ≤ sizeLine; decide), fun u1 h1 => ⟨(by show 2 ≤ sizeLine; decide), fun u2 h2 => ⟨(by show 2 ≤ sizeLine; decide), fun u3 h3 => ⟨(by show 2 ≤ sizeLine; decide), fun u4 h4 => ⟨_, rfl, (by show 2 ≤ sizeLine; decide), fun u5 h5 => ⟨(by show 2 ≤ sizeLine; decide), fun u6 h6 => ⟨_, rfl, (by show 2 ≤ sizeLine; decide), fun u7 h7 => ?_⟩⟩⟩⟩⟩⟩⟩
    have s1 := same_new h1 (.tup [.int 0, .int 1])
    have S1 := S.same s1
    have o1 : OkV s c _ (.ref u1) := .two S h1 (.int 0) (.int 1) (tiny 0 (by decide)) (tiny 1 (by decide))
    have s2 := same_new h2 (.tup [.int 1, .int 0])
    have S2 := S1.same s2
    have o2 : OkV s c _ (.ref u2) := .two S1 h2 (.int 1) (.int 0) (tiny 1 (by decide)) (tiny 0 (by decide))
    have s3 := same_new h3 (.tup [.int 0, .int 0])
    have S3 := S2.same s3
    have o3 : OkV s c _ (.ref u3) := .two S2 h3 (.int 0) (.int 0) (tiny 0 (by decide)) (tiny 0 (by decide))
    have s4 := same_new h4 (.tup [.int 1, .bl true])
    have S4 := S3.same s4
    have o4 : OkV s c _ (.ref u4) := .two S3 h4 (.int 1) (.bl true) (tiny 1 (by decide)) (no_sz rfl)
    have s14 := ((s1.trans s2).trans s3).trans s4
    have s5 := same_new h5 (.tup [.ref p, .int 1])
    have S5 := S4.same s5
    have o5 : OkV s c _ (.ref u5) := .two S4 h5 (okp.same s14).sh (.int 1) (no_sz rfl) (tiny 1 (by decide))
    have s6 := same_new h6 (.tup [.str "1", .int 1])
    have S6 := S5.same s6
    have o6 : OkV s c _ (.ref u6) := .two S5 h6 (.str "1") (.int 1) (no_sz rfl) (tiny 1 (by decide))
    have s7 := same_new h7 (.tup [.int (-3), .int 2])
    have S7 := S6.same s7
    have o7 : OkV s c _ (.ref u7) := .two S6 h7 (.int (-3)) (.int 2) (tiny (-3) (by decide)) (tiny 2 (by decide))
    have big : Sz 400 ((10 : Int) ^ (30 : Int).toNat) := by show Int.natAbs _ < 2 ^ 400; decide +kernel
    refine ⟨_, _, rfl, rfl, ⟨by decide, by decide, by decide⟩, _, _, rfl, rfl, ⟨by decide, by decide, by decide⟩, (by show 2 ≤ sizeLine; decide), fun u8 h8 => ⟨(by show 9 ≤ sizeLine; decide), fun l9 h9 => ?_⟩⟩
    have s8 := same_new h8 (.tup [.int ((10 : Int) ^ (30 : Int).toNat), .int ((10 : Int) ^ (30 : Int).toNat)])
    have S8 := S7.same s8
    have o8 : OkV s c _ (.ref u8) := .two S7 h8 (.int _) (.int _) (int_sz big) (int_sz big)
    have s9 := same_new h9 (.lst [.ref u1, .ref u2, .ref u3, .ref u4, .ref u5, .non, .ref u6, .ref u7, .ref u8])
    have S9 := S8.same s9
    have s49 := (((s5.trans s6).trans s7).trans s8).trans s9
    have s19 := s14.trans s49
    refine ⟨pn, l9, _, _, rfl, rfl, s19 _ _ epn, upd_same, (by rw [ln]; show 11 + 9 ≤ sizeLine; decide), fun L hL => ?_⟩
    have sL := same_new hL (.lst (near ++ [.ref u1, .ref u2, .ref u3, .ref u4, .ref u5, .non, .ref u6, .ref u7, .ref u8]))
    have SL := S9.same sL
    have r8 := s9.trans sL
    have r7 := s8.trans r8
    have r6 := s7.trans r7
    have r5 := s6.trans r6
    have r4 := s5.trans r5
    have r3 := s4.trans r4
    have r2 := s3.trans r3
    have r1 := s2.trans r2
    have r0 := s1.trans r1
    have okm := forall_cons (p := fun z => OkV s c _ z) (o1.same r1) (forall_cons (o2.same r2) (forall_cons (o3.same r3) (forall_cons (o4.same r4) (forall_cons (o5.same r5) (forall_cons .non (forall_cons (o6.same r6) (forall_cons (o7.same r7) (forall_cons (o8.same r8) forall_nil))))))))
    have okn' := fun z (hz : z ∈ near) => (okn z hz).same r0
    have ok := fun z (hz : z ∈ near ++ [.ref u1, .ref u2, .ref u3, .ref u4, .ref u5, .non, .ref u6, .ref u7, .ref u8]) => (List.mem_append.mp hz).elim (okn' z) (okm z)
    refine ⟨L, rfl, ⟨_, SqL.of upd_same⟩, for_list (K := K) (a := L) (xs := near ++ [.ref u1, .ref u2, .ref u3, .ref u4, .ref u5, .non, .ref u6, .ref u7, .ref u8])
      (fun _ σ' M' => ∃ v12' : Option V, σ' = [some (.ref a0), some (.ref s), some (.int (0 + (i : Int))), some (.int a), some (.int b), some (.ref p), some (.ref q), some (.int m), some (.ref pr), some (.ref ps), some o, some (.ref pn), v12', v13] ∧
        Src M' s c ∧ M' L = some (.lst (near ++ [.ref u1, .ref u2, .ref u3, .ref u4, .ref u5, .non, .ref u6, .ref u7, .ref u8])) ∧ ∀ z ∈ near ++ [.ref u1, .ref u2, .ref u3, .ref u4, .ref u5, .non, .ref u6, .ref u7, .ref u8], OkV s c M' z)
      ⟨v12, rfl, SL, upd_same, ok⟩ (fun _ σ' M' _ ⟨_, _, _, e, _⟩ => SqL.of e) ?_ ?_⟩
    · rintro j z σ' M' hz ⟨v12', rfl, S', eL, ok'⟩
      obtain ⟨bb, hb'⟩ := (ok' z (mem_at hz)).fr
      refine ⟨_, rfl, z, bb, rfl, hb', fun H1 s1' => ⟨bb, rfl, _, rfl, z, bb, rfl, hb'.same s1', fun H2 s2' => ⟨bb, rfl, rfl, _, rfl, iteN (fun h => absurd rfl h) (fun _ => ?_)⟩⟩⟩
      have t := s1'.trans s2'
      exact ⟨_, rfl, S'.same t, t _ _ eL, fun z hz => (ok' z hz).same t⟩
    · rintro σ' M' ⟨v12', rfl, S', _, _⟩
      exact ⟨_, _, _, _, _, _, _, _, _, _, _, _, rfl, S'⟩
  · rintro σ M ⟨v2, v3, v4, v5, v6, v7, v8, v9, v10, v11, v12, v13, rfl, S⟩
    refine ⟨_, rfl, 6, -4, 10, rfl, by decide, sz_small (by decide) (by decide), by decide, by decide, fun p1 H1 s1 h1 e1 => ?_⟩
    refine ⟨_, rfl, 0, -5, 10, rfl, by decide, sz_small (by decide) (by decide), by decide, by decide, fun p2 H2 s2 h2 e2 => ?_⟩
    refine ⟨(by show 2 ≤ sizeLine; decide), fun q1 hq1 => ⟨_, rfl, (by show 2 ≤ sizeLine; decide), fun q2 hq2 => ?_⟩⟩
    have s3 := same_new hq1 (.tup (pair 1 2))
    have s4 := same_new hq2 (.tup (pair (-1) 2))
    refine ⟨q1, q2, 1, 2, -1, 2, 10, 10, rfl, s4 _ _ upd_same, upd_same, by decide, by decide, sz_small (by decide) (by decide), sz_small (by decide) (by decide), sz_small (by decide) (by decide), sz_small (by decide) (by decide), by decide, by decide, by decide, fun p3 H3 s5 h3 e3 => ?_⟩
    refine ⟨(by show 2 ≤ sizeLine; decide), fun q3 hq3 => ⟨(by show 2 ≤ sizeLine; decide), fun q4 hq4 => ?_⟩⟩
    have s6 := same_new hq3 (.tup (pair 2 3))
    have s7 := same_new hq4 (.tup (pair 0 1))
    refine ⟨q3, q4, 2, 3, 0, 1, 10, 10, rfl, s7 _ _ upd_same, upd_same, by decide, by decide, sz_small (by decide) (by decide), sz_small (by decide) (by decide), sz_small (by decide) (by decide), sz_small (by decide) (by decide), by decide, by decide, by decide, fun p4 H4 s8 h4 e4 => ?_⟩
    refine ⟨Nat.zero_le _, fun q5 hq5 => ⟨Nat.zero_le _, fun q6 hq6 => ?_⟩⟩
    have s9 := same_new hq5 (.tup [])
    have s10 := same_new hq6 (.tup [])
    refine ⟨true, true, q5, q6, [], [], rfl, SqT.of (s10 _ _ upd_same), SqT.of upd_same, rfl, by decide, forall_nil, forall_nil, fun p5 H5 s11 e5 => ?_⟩
    refine ⟨(by show 5 ≤ sizeLine; decide), fun l1 hl1 => ?_⟩
    have s12 := same_new hl1 (.lst [.ref p1, .ref p2, .ref p3, .ref p4, .ref p5])
    refine ⟨_, rfl, (by show 2 ≤ sizeLine; decide), fun w1 hw1 => ⟨(by show 2 ≤ sizeLine; decide), fun w2 hw2 => ⟨(by show 2 ≤ sizeLine; decide), fun w3 hw3 => ⟨(by show 2 ≤ sizeLine; decide), fun w4 hw4 => ⟨(by show 2 ≤ sizeLine; decide), fun w5 hw5 => ⟨(by show 5 ≤ sizeLine; decide), fun l2 hl2 => ?_⟩⟩⟩⟩⟩⟩
    have z1 := same_new hw1 (.tup (pair (-3) 2))
    have z2 := same_new hw2 (.tup (pair 0 1))
    have z3 := same_new hw3 (.tup (pair 0 1))
    have z4 := same_new hw4 (.tup (pair 0 1))
    have z5 := same_new hw5 (.tup (pair 0 1))
    have z6 := same_new hl2 (.lst [.ref w1, .ref w2, .ref w3, .ref w4, .ref w5])
    have y5 := z5.trans z6
    have y4 := z4.trans y5
    have y3 := z3.trans y4
    have y2 := z2.trans y3
    have y1 := z1.trans y2
    have x5 := s12.trans y1
    have x4 := ((s9.trans s10).trans s11).trans x5
    have x3 := ((s6.trans s7).trans s8).trans x4
    have x2 := ((s3.trans s4).trans s5).trans x3
    have x1 := s2.trans x2
    refine ⟨_, _, .lst (SqL.of (y1 _ _ upd_same)) (.cons (Dp.pair (x1 _ _ e1)) (.cons (Dp.pair (x2 _ _ e2)) (.cons (Dp.pair (x3 _ _ e3)) (.cons (Dp.pair (x4 _ _ e4)) (.cons (Dp.pair (x5 _ _ e5)) .nil))))),
      .lst (SqL.of upd_same) (.cons (Dp.pair (a := -3) (b := 2) (y2 _ _ upd_same)) (.cons (Dp.pair (a := 0) (b := 1) (y3 _ _ upd_same)) (.cons (Dp.pair (a := 0) (b := 1) (y4 _ _ upd_same)) (.cons (Dp.pair (a := 0) (b := 1) (y5 _ _ upd_same)) (.cons (Dp.pair (a := 0) (b := 1) (z6 _ _ upd_same)) .nil))))), rfl, rfl, ?_⟩
    have e : PyData.eqv (.list [.tuple [.int (low 6 (-4)).1, .int (low 6 (-4)).2], .tuple [.int (low 0 (-5)).1, .int (low 0 (-5)).2], .tuple [.int (addF 1 2 (-1) 2).1, .int (addF 1 2 (-1) 2).2], .tuple [.int (timesF 2 3 0 1).1, .int (timesF 2 3 0 1).2], .tuple [.int (rs (0, 1) [] []).1, .int (rs (0, 1) [] []).2]])
        (.list [.tuple [.int (-3), .int 2], .tuple [.int 0, .int 1], .tuple [.int 0, .int 1], .tuple [.int 0, .int 1], .tuple [.int 0, .int 1]]) = true := by decide +kernel
    rw [e]
    exact k _
end
end My
namespace My
open PySem PySem.Spec PyProof.Rows L2
theorem tx_mk {K : PySem.W.Frag} {h : Heap} {mg : Str → Option Value} (X : K.In h) (G : h.Ns mainGlobals mg)
    {fa f_is_integer f_lowest f_added f_times f_is_fraction f_row_sum f_law_pick f_law_of f_law_lowest f_law_source f_law_row_sum f_law_odd f_law_is_fraction f_law_number f_law_drawn f_law : Addr}
    {od_is_integer an_is_integer od_lowest an_lowest od_added an_added od_times an_times od_is_fraction an_is_fraction od_row_sum an_row_sum od_law_pick an_law_pick od_law_of an_law_of od_law_lowest an_law_lowest od_law_source an_law_source od_law_row_sum an_law_row_sum od_law_odd an_law_odd od_law_is_fraction an_law_is_fraction od_law_number an_law_number od_law_drawn an_law_drawn od_law an_law : Option Addr}
    {sl_is_integer sl_lowest sl_added sl_times sl_is_fraction sl_row_sum sl_law_pick sl_law_of sl_law_lowest sl_law_source sl_law_row_sum sl_law_odd sl_law_is_fraction sl_law_number sl_law_drawn sl_law : Array (Option Value)}
    {oc_is_integer kV_is_integer dc_is_integer pm_is_integer cd_is_integer ct_is_integer oc_lowest kV_lowest dc_lowest pm_lowest cd_lowest ct_lowest oc_added kV_added dc_added pm_added cd_added ct_added oc_times kV_times dc_times pm_times cd_times ct_times oc_is_fraction kV_is_fraction dc_is_fraction pm_is_fraction cd_is_fraction ct_is_fraction oc_row_sum kV_row_sum dc_row_sum pm_row_sum cd_row_sum ct_row_sum oc_law_pick kV_law_pick dc_law_pick pm_law_pick cd_law_pick ct_law_pick oc_law_of kV_law_of dc_law_of pm_law_of cd_law_of ct_law_of oc_law_lowest kV_law_lowest dc_law_lowest pm_law_lowest cd_law_lowest ct_law_lowest oc_law_source kV_law_source dc_law_source pm_law_source cd_law_source ct_law_source oc_law_row_sum kV_law_row_sum dc_law_row_sum pm_law_row_sum cd_law_row_sum ct_law_row_sum oc_law_odd kV_law_odd dc_law_odd pm_law_odd cd_law_odd ct_law_odd oc_law_is_fraction kV_law_is_fraction dc_law_is_fraction pm_law_is_fraction cd_law_is_fraction ct_law_is_fraction oc_law_number kV_law_number dc_law_number pm_law_number cd_law_number ct_law_number oc_law_drawn kV_law_drawn dc_law_drawn pm_law_drawn cd_law_drawn ct_law_drawn oc_law kV_law dc_law pm_law cd_law ct_law : Value} (hfa : mg "law" = some (.ref fa))
    (a_is_integer : PySem.W.nsIn K mainGlobals "is_integer" = some (some (.ref f_is_integer))) (l_is_integer : K.lookup f_is_integer = some ⟨oc_is_integer, od_is_integer, .func (PySem.W.fnOf "is_integer" "is_integer" (defArgs s_is_integer) (defBody s_is_integer) (defScope s_is_integer) .none kV_is_integer dc_is_integer pm_is_integer an_is_integer cd_is_integer ct_is_integer), sl_is_integer⟩) (c_is_integer : PySem.W.codeIn K cd_is_integer "is_integer" = true) (k_is_integer : PySem.W.keepIn K (.ref f_is_integer) = true)
    (a_lowest : PySem.W.nsIn K mainGlobals "lowest" = some (some (.ref f_lowest))) (l_lowest : K.lookup f_lowest = some ⟨oc_lowest, od_lowest, .func (PySem.W.fnOf "lowest" "lowest" (defArgs s_lowest) (defBody s_lowest) (defScope s_lowest) .none kV_lowest dc_lowest pm_lowest an_lowest cd_lowest ct_lowest), sl_lowest⟩) (c_lowest : PySem.W.codeIn K cd_lowest "lowest" = true) (k_lowest : PySem.W.keepIn K (.ref f_lowest) = true)
    (a_added : PySem.W.nsIn K mainGlobals "added" = some (some (.ref f_added))) (l_added : K.lookup f_added = some ⟨oc_added, od_added, .func (PySem.W.fnOf "added" "added" (defArgs s_added) (defBody s_added) (defScope s_added) .none kV_added dc_added pm_added an_added cd_added ct_added), sl_added⟩) (c_added : PySem.W.codeIn K cd_added "added" = true) (k_added : PySem.W.keepIn K (.ref f_added) = true)
    (a_times : PySem.W.nsIn K mainGlobals "times" = some (some (.ref f_times))) (l_times : K.lookup f_times = some ⟨oc_times, od_times, .func (PySem.W.fnOf "times" "times" (defArgs s_times) (defBody s_times) (defScope s_times) .none kV_times dc_times pm_times an_times cd_times ct_times), sl_times⟩) (c_times : PySem.W.codeIn K cd_times "times" = true) (k_times : PySem.W.keepIn K (.ref f_times) = true)
    (a_is_fraction : PySem.W.nsIn K mainGlobals "is_fraction" = some (some (.ref f_is_fraction))) (l_is_fraction : K.lookup f_is_fraction = some ⟨oc_is_fraction, od_is_fraction, .func (PySem.W.fnOf "is_fraction" "is_fraction" (defArgs s_is_fraction) (defBody s_is_fraction) (defScope s_is_fraction) .none kV_is_fraction dc_is_fraction pm_is_fraction an_is_fraction cd_is_fraction ct_is_fraction), sl_is_fraction⟩) (c_is_fraction : PySem.W.codeIn K cd_is_fraction "is_fraction" = true) (k_is_fraction : PySem.W.keepIn K (.ref f_is_fraction) = true)
    (a_row_sum : PySem.W.nsIn K mainGlobals "row_sum" = some (some (.ref f_row_sum))) (l_row_sum : K.lookup f_row_sum = some ⟨oc_row_sum, od_row_sum, .func (PySem.W.fnOf "row_sum" "row_sum" (defArgs s_row_sum) (defBody s_row_sum) (defScope s_row_sum) .none kV_row_sum dc_row_sum pm_row_sum an_row_sum cd_row_sum ct_row_sum), sl_row_sum⟩) (c_row_sum : PySem.W.codeIn K cd_row_sum "row_sum" = true) (k_row_sum : PySem.W.keepIn K (.ref f_row_sum) = true)
    (a_law_pick : PySem.W.nsIn K mainGlobals "_law_pick" = some (some (.ref f_law_pick))) (l_law_pick : K.lookup f_law_pick = some ⟨oc_law_pick, od_law_pick, .func (PySem.W.fnOf "_law_pick" "_law_pick" (defArgs s_law_pick) (defBody s_law_pick) (defScope s_law_pick) .none kV_law_pick dc_law_pick pm_law_pick an_law_pick cd_law_pick ct_law_pick), sl_law_pick⟩) (c_law_pick : PySem.W.codeIn K cd_law_pick "_law_pick" = true) (k_law_pick : PySem.W.keepIn K (.ref f_law_pick) = true)
    (a_law_of : PySem.W.nsIn K mainGlobals "_law_of" = some (some (.ref f_law_of))) (l_law_of : K.lookup f_law_of = some ⟨oc_law_of, od_law_of, .func (PySem.W.fnOf "_law_of" "_law_of" (defArgs s_law_of) (defBody s_law_of) (defScope s_law_of) .none kV_law_of dc_law_of pm_law_of an_law_of cd_law_of ct_law_of), sl_law_of⟩) (c_law_of : PySem.W.codeIn K cd_law_of "_law_of" = true) (k_law_of : PySem.W.keepIn K (.ref f_law_of) = true)
    (a_law_lowest : PySem.W.nsIn K mainGlobals "_law_lowest" = some (some (.ref f_law_lowest))) (l_law_lowest : K.lookup f_law_lowest = some ⟨oc_law_lowest, od_law_lowest, .func (PySem.W.fnOf "_law_lowest" "_law_lowest" (defArgs s_law_lowest) (defBody s_law_lowest) (defScope s_law_lowest) .none kV_law_lowest dc_law_lowest pm_law_lowest an_law_lowest cd_law_lowest ct_law_lowest), sl_law_lowest⟩) (c_law_lowest : PySem.W.codeIn K cd_law_lowest "_law_lowest" = true) (k_law_lowest : PySem.W.keepIn K (.ref f_law_lowest) = true)
    (a_law_source : PySem.W.nsIn K mainGlobals "_law_source" = some (some (.ref f_law_source))) (l_law_source : K.lookup f_law_source = some ⟨oc_law_source, od_law_source, .func (PySem.W.fnOf "_law_source" "_law_source" (defArgs s_law_source) (defBody s_law_source) (defScope s_law_source) .none kV_law_source dc_law_source pm_law_source an_law_source cd_law_source ct_law_source), sl_law_source⟩) (c_law_source : PySem.W.codeIn K cd_law_source "_law_source" = true) (k_law_source : PySem.W.keepIn K (.ref f_law_source) = true)
    (a_law_row_sum : PySem.W.nsIn K mainGlobals "_law_row_sum" = some (some (.ref f_law_row_sum))) (l_law_row_sum : K.lookup f_law_row_sum = some ⟨oc_law_row_sum, od_law_row_sum, .func (PySem.W.fnOf "_law_row_sum" "_law_row_sum" (defArgs s_law_row_sum) (defBody s_law_row_sum) (defScope s_law_row_sum) .none kV_law_row_sum dc_law_row_sum pm_law_row_sum an_law_row_sum cd_law_row_sum ct_law_row_sum), sl_law_row_sum⟩) (c_law_row_sum : PySem.W.codeIn K cd_law_row_sum "_law_row_sum" = true) (k_law_row_sum : PySem.W.keepIn K (.ref f_law_row_sum) = true)
    (a_law_odd : PySem.W.nsIn K mainGlobals "_law_odd" = some (some (.ref f_law_odd))) (l_law_odd : K.lookup f_law_odd = some ⟨oc_law_odd, od_law_odd, .func (PySem.W.fnOf "_law_odd" "_law_odd" (defArgs s_law_odd) (defBody s_law_odd) (defScope s_law_odd) .none kV_law_odd dc_law_odd pm_law_odd an_law_odd cd_law_odd ct_law_odd), sl_law_odd⟩) (c_law_odd : PySem.W.codeIn K cd_law_odd "_law_odd" = true) (k_law_odd : PySem.W.keepIn K (.ref f_law_odd) = true)
    (a_law_is_fraction : PySem.W.nsIn K mainGlobals "_law_is_fraction" = some (some (.ref f_law_is_fraction))) (l_law_is_fraction : K.lookup f_law_is_fraction = some ⟨oc_law_is_fraction, od_law_is_fraction, .func (PySem.W.fnOf "_law_is_fraction" "_law_is_fraction" (defArgs s_law_is_fraction) (defBody s_law_is_fraction) (defScope s_law_is_fraction) .none kV_law_is_fraction dc_law_is_fraction pm_law_is_fraction an_law_is_fraction cd_law_is_fraction ct_law_is_fraction), sl_law_is_fraction⟩) (c_law_is_fraction : PySem.W.codeIn K cd_law_is_fraction "_law_is_fraction" = true) (k_law_is_fraction : PySem.W.keepIn K (.ref f_law_is_fraction) = true)
    (a_law_number : PySem.W.nsIn K mainGlobals "_law_number" = some (some (.ref f_law_number))) (l_law_number : K.lookup f_law_number = some ⟨oc_law_number, od_law_number, .func (PySem.W.fnOf "_law_number" "_law_number" (defArgs s_law_number) (defBody s_law_number) (defScope s_law_number) .none kV_law_number dc_law_number pm_law_number an_law_number cd_law_number ct_law_number), sl_law_number⟩) (c_law_number : PySem.W.codeIn K cd_law_number "_law_number" = true) (k_law_number : PySem.W.keepIn K (.ref f_law_number) = true)
    (a_law_drawn : PySem.W.nsIn K mainGlobals "_law_drawn" = some (some (.ref f_law_drawn))) (l_law_drawn : K.lookup f_law_drawn = some ⟨oc_law_drawn, od_law_drawn, .func (PySem.W.fnOf "_law_drawn" "_law_drawn" (defArgs s_law_drawn) (defBody s_law_drawn) (defScope s_law_drawn) .none kV_law_drawn dc_law_drawn pm_law_drawn an_law_drawn cd_law_drawn ct_law_drawn), sl_law_drawn⟩) (c_law_drawn : PySem.W.codeIn K cd_law_drawn "_law_drawn" = true) (k_law_drawn : PySem.W.keepIn K (.ref f_law_drawn) = true)
    (a_law : PySem.W.nsIn K mainGlobals "law" = some (some (.ref f_law))) (l_law : K.lookup f_law = some ⟨oc_law, od_law, .func (PySem.W.fnOf "law" "law" (defArgs s_law) (defBody s_law) (defScope s_law) .none kV_law dc_law pm_law an_law cd_law ct_law), sl_law⟩) (c_law : PySem.W.codeIn K cd_law "law" = true) (k_law : PySem.W.keepIn K (.ref f_law) = true)
    (zg_gcd : PySem.W.nsIn K mainGlobals "gcd" = some (some (.builtin "math.gcd")))
    (zn_abs : PySem.W.nsIn K mainGlobals "abs" = some none)
    (zn_bool : PySem.W.nsIn K mainGlobals "bool" = some none)
    (zn_int : PySem.W.nsIn K mainGlobals "int" = some none)
    (zn_isinstance : PySem.W.nsIn K mainGlobals "isinstance" = some none)
    (zn_len : PySem.W.nsIn K mainGlobals "len" = some none)
    (zn_list : PySem.W.nsIn K mainGlobals "list" = some none)
    (zn_max : PySem.W.nsIn K mainGlobals "max" = some none)
    (zn_range : PySem.W.nsIn K mainGlobals "range" = some none)
    (zn_repr : PySem.W.nsIn K mainGlobals "repr" = some none)
    (zn_tuple : PySem.W.nsIn K mainGlobals "tuple" = some none)
    (zn_zip : PySem.W.nsIn K mainGlobals "zip" = some none) :
    ∃ T : Tx K mg, T.a_law = fa ∧ (∀ (s : Shared) (v : Value), BindsTo s T.fd_law ⟨[v], []⟩ [("_law_script", v)]) := by
  have e := hfa.symm.trans (PySem.W.mg_of X G a_law)
  cases e
  have F_is_integer := fun_mk (st := s_is_integer) l_is_integer c_is_integer k_is_integer
  have b_is_integer := F_is_integer.binds (ps := ["value"]) fun _ _ _ _ _ _ us hl => match us, hl with | [_], _ => rfl
  have F_lowest := fun_mk (st := s_lowest) l_lowest c_lowest k_lowest
  have b_lowest := F_lowest.binds (ps := ["a", "b"]) fun _ _ _ _ _ _ us hl => match us, hl with | [_, _], _ => rfl
  have F_added := fun_mk (st := s_added) l_added c_added k_added
  have b_added := F_added.binds (ps := ["one", "other"]) fun _ _ _ _ _ _ us hl => match us, hl with | [_, _], _ => rfl
  have F_times := fun_mk (st := s_times) l_times c_times k_times
  have b_times := F_times.binds (ps := ["one", "other"]) fun _ _ _ _ _ _ us hl => match us, hl with | [_, _], _ => rfl
  have F_is_fraction := fun_mk (st := s_is_fraction) l_is_fraction c_is_fraction k_is_fraction
  have b_is_fraction := F_is_fraction.binds (ps := ["value"]) fun _ _ _ _ _ _ us hl => match us, hl with | [_], _ => rfl
  have F_row_sum := fun_mk (st := s_row_sum) l_row_sum c_row_sum k_row_sum
  have b_row_sum := F_row_sum.binds (ps := ["row", "fractions"]) fun _ _ _ _ _ _ us hl => match us, hl with | [_, _], _ => rfl
  have F_law_pick := fun_mk (st := s_law_pick) l_law_pick c_law_pick k_law_pick
  have b_law_pick := F_law_pick.binds (ps := ["_law_source_here", "_law_many"]) fun _ _ _ _ _ _ us hl => match us, hl with | [_, _], _ => rfl
  have F_law_of := fun_mk (st := s_law_of) l_law_of c_law_of k_law_of
  have b_law_of := F_law_of.binds (ps := ["_law_source_here", "_law_some"]) fun _ _ _ _ _ _ us hl => match us, hl with | [_, _], _ => rfl
  have F_law_lowest := fun_mk (st := s_law_lowest) l_law_lowest c_law_lowest k_law_lowest
  have b_law_lowest := F_law_lowest.binds (ps := ["_law_a", "_law_b"]) fun _ _ _ _ _ _ us hl => match us, hl with | [_, _], _ => rfl
  have F_law_source := fun_mk (st := s_law_source) l_law_source c_law_source k_law_source
  have b_law_source := F_law_source.binds (ps := ["_law_script"]) fun _ _ _ _ _ _ us hl => match us, hl with | [_], _ => rfl
  have F_law_row_sum := fun_mk (st := s_law_row_sum) l_law_row_sum c_law_row_sum k_law_row_sum
  have b_law_row_sum := F_law_row_sum.binds (ps := ["_law_row", "_law_fractions"]) fun _ _ _ _ _ _ us hl => match us, hl with | [_, _], _ => rfl
  have F_law_odd := fun_mk (st := s_law_odd) l_law_odd c_law_odd k_law_odd
  have b_law_odd := F_law_odd.binds (ps := ["_law_source_here"]) fun _ _ _ _ _ _ us hl => match us, hl with | [_], _ => rfl
  have F_law_is_fraction := fun_mk (st := s_law_is_fraction) l_law_is_fraction c_law_is_fraction k_law_is_fraction
  have b_law_is_fraction := F_law_is_fraction.binds (ps := ["_law_value"]) fun _ _ _ _ _ _ us hl => match us, hl with | [_], _ => rfl
  have F_law_number := fun_mk (st := s_law_number) l_law_number c_law_number k_law_number
  have b_law_number := F_law_number.binds (ps := ["_law_source_here"]) fun _ _ _ _ _ _ us hl => match us, hl with | [_], _ => rfl
  have F_law_drawn := fun_mk (st := s_law_drawn) l_law_drawn c_law_drawn k_law_drawn
  have b_law_drawn := F_law_drawn.binds (ps := ["_law_source_here"]) fun _ _ _ _ _ _ us hl => match us, hl with | [_], _ => rfl
  have F_law := fun_mk (st := s_law) l_law c_law k_law
  have b_law := F_law.binds (ps := ["_law_script"]) fun _ _ _ _ _ _ us hl => match us, hl with | [_], _ => rfl
  exact ⟨{ a_is_integer := f_is_integer, fd_is_integer := _, F_is_integer := F_is_integer, b_is_integer := b_is_integer, m_is_integer := PySem.W.mg_of X G a_is_integer, a_lowest := f_lowest, fd_lowest := _, F_lowest := F_lowest, b_lowest := b_lowest, m_lowest := PySem.W.mg_of X G a_lowest, a_added := f_added, fd_added := _, F_added := F_added, b_added := b_added, m_added := PySem.W.mg_of X G a_added, a_times := f_times, fd_times := _, F_times := F_times, b_times := b_times, m_times := PySem.W.mg_of X G a_times, a_is_fraction := f_is_fraction, fd_is_fraction := _, F_is_fraction := F_is_fraction, b_is_fraction := b_is_fraction, m_is_fraction := PySem.W.mg_of X G a_is_fraction, a_row_sum := f_row_sum, fd_row_sum := _, F_row_sum := F_row_sum, b_row_sum := b_row_sum, m_row_sum := PySem.W.mg_of X G a_row_sum, a_law_pick := f_law_pick, fd_law_pick := _, F_law_pick := F_law_pick, b_law_pick := b_law_pick, m_law_pick := PySem.W.mg_of X G a_law_pick, a_law_of := f_law_of, fd_law_of := _, F_law_of := F_law_of, b_law_of := b_law_of, m_law_of := PySem.W.mg_of X G a_law_of, a_law_lowest := f_law_lowest, fd_law_lowest := _, F_law_lowest := F_law_lowest, b_law_lowest := b_law_lowest, m_law_lowest := PySem.W.mg_of X G a_law_lowest, a_law_source := f_law_source, fd_law_source := _, F_law_source := F_law_source, b_law_source := b_law_source, m_law_source := PySem.W.mg_of X G a_law_source, a_law_row_sum := f_law_row_sum, fd_law_row_sum := _, F_law_row_sum := F_law_row_sum, b_law_row_sum := b_law_row_sum, m_law_row_sum := PySem.W.mg_of X G a_law_row_sum, a_law_odd := f_law_odd, fd_law_odd := _, F_law_odd := F_law_odd, b_law_odd := b_law_odd, m_law_odd := PySem.W.mg_of X G a_law_odd, a_law_is_fraction := f_law_is_fraction, fd_law_is_fraction := _, F_law_is_fraction := F_law_is_fraction, b_law_is_fraction := b_law_is_fraction, m_law_is_fraction := PySem.W.mg_of X G a_law_is_fraction, a_law_number := f_law_number, fd_law_number := _, F_law_number := F_law_number, b_law_number := b_law_number, m_law_number := PySem.W.mg_of X G a_law_number, a_law_drawn := f_law_drawn, fd_law_drawn := _, F_law_drawn := F_law_drawn, b_law_drawn := b_law_drawn, m_law_drawn := PySem.W.mg_of X G a_law_drawn, a_law := _, fd_law := _, F_law := F_law, b_law := b_law, m_law := PySem.W.mg_of X G a_law, g_gcd := PySem.W.mg_of X G zg_gcd, n_abs := PySem.W.mg_none_of X G zn_abs, n_bool := PySem.W.mg_none_of X G zn_bool, n_int := PySem.W.mg_none_of X G zn_int, n_isinstance := PySem.W.mg_none_of X G zn_isinstance, n_len := PySem.W.mg_none_of X G zn_len, n_list := PySem.W.mg_none_of X G zn_list, n_max := PySem.W.mg_none_of X G zn_max, n_range := PySem.W.mg_none_of X G zn_range, n_repr := PySem.W.mg_none_of X G zn_repr, n_tuple := PySem.W.mg_none_of X G zn_tuple, n_zip := PySem.W.mg_none_of X G zn_zip }, rfl, fun s v => .of_eq rfl⟩
theorem walk {l : PySem.W.OpenLaw} {q : Program} {loose : List Str} {XP : (Str → Option Value) → Heap → Prop} {YP : World → Heap → Prop} {d : DefRec} {K : Params → PySem.W.Frag} (hn : l.most = some 63) (hdf : d.params.defaults = [])
    (hY : ∀ (w : World) (h : Heap), YP w h → (K w.params).In h)
    (F : ∀ (w : World) (mg : Str → Option Value) (fa : Addr) (h : Heap), (K w.params).In h → h.Ns mainGlobals mg → mg d.name = some (.ref fa) →
      ∃ fd : FuncData, (∀ (s : Shared) (u : Value), BindsTo s fd ⟨[u], []⟩ [("_law_script", u)]) ∧ ∀ base : Heap, (K w.params).In base → base.Ns mainGlobals mg → FnOk l.prog w (K w.params) mg base CX0 6 fa fd ["_law_script"] (spLaw (K w.params))) :
    PySem.W.WalkO q loose XP YP l.row.toRowW d [] (fun f vs => PySem.call f vs) :=
  L2.walk_of (n := 63) (k := 6) (x := "_law_script") (CX := fun _ => CX0) (sp := fun w => spLaw (K w.params)) hn (by decide) hdf ⟨rfl, by decide, by decide⟩ hY F (fun _ _ a ns hl _ hS => ⟨a, ns, rfl, hS, hl, fun _ => rfl⟩) fun _ _ _ _ _ z => z
end My
open PySem PySem.W PyProof.Rows
set_option maxRecDepth 100000 in
set_option maxHeartbeats 0 in
theorem PySem.Challenge.cw_eitherbarter_k21_fractions_holds : PySem.Challenge.rw_eitherbarter_k21_fractions.Holds := by
  w_on; o_law; k_head; (case hw => w_witness2)
  k_fill
  refine My.walk (l := PySem.Challenge.rw_eitherbarter_k21_fractions) rfl rfl (fun w h Y => PySem.W.kIn_of Y) ?F
  case F =>
    intro w mg fa h KX G hmg
    refine' Exists.elim (My.tx_mk KX G hmg ?a_is_integer ?l_is_integer ?c_is_integer ?k_is_integer ?a_lowest ?l_lowest ?c_lowest ?k_lowest ?a_added ?l_added ?c_added ?k_added ?a_times ?l_times ?c_times ?k_times ?a_is_fraction ?l_is_fraction ?c_is_fraction ?k_is_fraction ?a_row_sum ?l_row_sum ?c_row_sum ?k_row_sum ?a_law_pick ?l_law_pick ?c_law_pick ?k_law_pick ?a_law_of ?l_law_of ?c_law_of ?k_law_of ?a_law_lowest ?l_law_lowest ?c_law_lowest ?k_law_lowest ?a_law_source ?l_law_source ?c_law_source ?k_law_source ?a_law_row_sum ?l_law_row_sum ?c_law_row_sum ?k_law_row_sum ?a_law_odd ?l_law_odd ?c_law_odd ?k_law_odd ?a_law_is_fraction ?l_law_is_fraction ?c_law_is_fraction ?k_law_is_fraction ?a_law_number ?l_law_number ?c_law_number ?k_law_number ?a_law_drawn ?l_law_drawn ?c_law_drawn ?k_law_drawn ?a_law ?l_law ?c_law ?k_law ?zg_gcd ?zn_abs ?zn_bool ?zn_int ?zn_isinstance ?zn_len ?zn_list ?zn_max ?zn_range ?zn_repr ?zn_tuple ?zn_zip) (fun T hT => ?fin)
    (case a_is_integer => k_is)
    (case l_is_integer => k_is)
    (case c_is_integer => k_is)
    (case k_is_integer => k_is)
    (case a_lowest => k_is)
    (case l_lowest => k_is)
    (case c_lowest => k_is)
    (case k_lowest => k_is)
    (case a_added => k_is)
    (case l_added => k_is)
    (case c_added => k_is)
    (case k_added => k_is)
    (case a_times => k_is)
    (case l_times => k_is)
    (case c_times => k_is)
    (case k_times => k_is)
    (case a_is_fraction => k_is)
    (case l_is_fraction => k_is)
    (case c_is_fraction => k_is)
    (case k_is_fraction => k_is)
    (case a_row_sum => k_is)
    (case l_row_sum => k_is)
    (case c_row_sum => k_is)
    (case k_row_sum => k_is)
    (case a_law_pick => k_is)
    (case l_law_pick => k_is)
    (case c_law_pick => k_is)
    (case k_law_pick => k_is)
    (case a_law_of => k_is)
    (case l_law_of => k_is)
    (case c_law_of => k_is)
    (case k_law_of => k_is)
    (case a_law_lowest => k_is)
    (case l_law_lowest => k_is)
    (case c_law_lowest => k_is)
    (case k_law_lowest => k_is)
    (case a_law_source => k_is)
    (case l_law_source => k_is)
    (case c_law_source => k_is)
    (case k_law_source => k_is)
    (case a_law_row_sum => k_is)
    (case l_law_row_sum => k_is)
    (case c_law_row_sum => k_is)
    (case k_law_row_sum => k_is)
    (case a_law_odd => k_is)
    (case l_law_odd => k_is)
    (case c_law_odd => k_is)
    (case k_law_odd => k_is)
    (case a_law_is_fraction => k_is)
    (case l_law_is_fraction => k_is)
    (case c_law_is_fraction => k_is)
    (case k_law_is_fraction => k_is)
    (case a_law_number => k_is)
    (case l_law_number => k_is)
    (case c_law_number => k_is)
    (case k_law_number => k_is)
    (case a_law_drawn => k_is)
    (case l_law_drawn => k_is)
    (case c_law_drawn => k_is)
    (case k_law_drawn => k_is)
    (case a_law => k_is)
    (case l_law => k_is)
    (case c_law => k_is)
    (case k_law => k_is)
    (case zg_gcd => k_is)
    (case zn_abs => k_is)
    (case zn_bool => k_is)
    (case zn_int => k_is)
    (case zn_isinstance => k_is)
    (case zn_len => k_is)
    (case zn_list => k_is)
    (case zn_max => k_is)
    (case zn_range => k_is)
    (case zn_repr => k_is)
    (case zn_tuple => k_is)
    (case zn_zip => k_is)
    (case fin => (obtain ⟨e, hb⟩ := hT; subst e; exact ⟨T.fd_law, hb, fun base _ _ => My.ok_law T⟩))
#print axioms PySem.Challenge.cw_eitherbarter_k21_fractions_holds
