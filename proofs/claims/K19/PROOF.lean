import PyProof.Rows.All
import Wide.All
import OpenK.AllK
import Wide.FinOn
import HandS.ForMost
import HandS.Gcd
import HandS.Wide
import HandS.IsInst
import HandS.Style
import HandS.Zip
import HandS.Evl
import HandS.ExcInit
import HandS.ExcOwn
import HandS.ExcField
import HandS.WordsExc
import HandS.StrMore
import HandS.Sort
import HandS.Lambda
import HandS.TupMul
import PyProof.ReprRoads
import PyProof.RowDictHeap
import PyProof.ReprBulk
import PyProof.OldK
import KE.KNestM
import PySem.Challenge.RW_eitherbarter_k19_whole_leaves_and_forks
set_option Elab.async false
set_option linter.all false
set_option maxRecDepth 100000
set_option maxHeartbeats 4000000
namespace My
open PySem PySem.Spec PyProof.Rows L2
/-! ### rules of my own -/
/-- // by any divisor but 0, below 2 ^ 9000 in size -/
def CDivX (_ j : Int) : Prop := j ≠ 0 ∧ j.natAbs.log2 < 9000
section
variable {X : Cx}
theorem op_fdivX : OpR X (binaryOp .FloorDiv) (rI CDivX fun i j => .int (i.fdiv j)) := opI fun _ _ _ _ _ _ _ hc q =>
  floordiv_int hc.1 q (.inl (PyProof.noPylong_of_log2 hc.2))
def rReprB : List V → Hp → VK → Prop := fun xs H Q => ∃ b : Bool, xs = [.bl b] ∧ Q (.str (if b then "True" else "False")) H
theorem call_repr_bl : CallR X (.builtin "repr") rReprB := by
  intro pins s σ H xs us Q I r h
  obtain ⟨b, rfl, q⟩ := h
  obtain ⟨u, rfl, r1⟩ := vals1 r
  cases (show u = Value.bool b from r1)
  exact PySem.P.repr_of_bool ⟨.str _, H, I.tok _, ⟨_, rfl⟩, q⟩
end
theorem iteD {p : Prop} [Decidable p] {A B : Prop} (h1 : p → A) (h2 : ¬ p → B) : if decide p = true then A else B := by
  by_cases h : p
  · rw [decide_eq_true h]; exact iteT (h1 h)
  · rw [decide_eq_false h]; exact iteF (h2 h)
theorem iteN {p : Prop} [Decidable p] {A B : Prop} (h1 : ¬ p → A) (h2 : p → B) : if (!decide p) = true then A else B := by
  by_cases h : p
  · rw [decide_eq_true h]; exact iteF (h2 h)
  · rw [decide_eq_false h]; exact iteT (h1 h)
/-- a while whose test leaves the heap as it is -/
theorem while_b {c : TT} {tb : TS} {D : Ends} {σ : L2.St} {H : Hp} (Pv : L2.St → Hp → Prop) (μ : L2.St → Hp → Nat) (h0 : Pv σ H)
    (hs : ∀ σ H, Pv σ H → ∃ b, (∀ Q : Bool → Hp → Prop, Q b H → c σ H Q) ∧
      (if b = true then tb { D with nx := fun σ' H' => Pv σ' H' ∧ μ σ' H' < μ σ H, ct := fun σ' H' => Pv σ' H' ∧ μ σ' H' < μ σ H, bk := D.nx } σ H else D.nx σ H)) : tWhile c tb D σ H := by
  refine ⟨fun m σ H => m = μ σ H ∧ Pv σ H, ⟨_, rfl, h0⟩, ?_⟩
  rintro m σ H ⟨rfl, p⟩
  obtain ⟨b, hc, ht⟩ := hs σ H p
  refine hc _ ?_
  cases b with
  | true =>
    rw [if_pos rfl] at ht
    exact ⟨_, fun σ' H' ⟨p', l⟩ => ⟨_, l, rfl, p'⟩, ht⟩
  | false =>
    rw [if_neg Bool.false_ne_true] at ht
    exact ht
theorem same_new {H : Hp} {p : Addr} (h : H p = none) (o : HO) : Same H (upd H p o) := fun b u q => by rw [upd_ne (ne_of_none q h)]; exact q
theorem small {n : Nat} (h : n ≤ 1000) : n ≤ sizeLine := Nat.le_of_lt (small1000 h)
/-! ### the source of draws: a dict at s, the cells' list at c -/
def srcD (c : Addr) (l m t : Int) : List (Key × V) := [(.inr "cells", .ref c), (.inr "left", .int l), (.inr "mixed", .int m), (.inr "turn", .int t)]
structure SrcL (H : Hp) (s c : Addr) (l m t : Int) (ns : List Int) : Prop where
  hs : H s = some (.dK (srcD c l m t))
  hc : H c = some (.lst (ns.map V.int))
  l0 : 0 ≤ l
  m0 : 0 ≤ m
  m1 : m < 4294967296
  t0 : 0 ≤ t
  n0 : ∀ n ∈ ns, 0 ≤ n
  len : ns.length ≤ 63
def Src (H : Hp) (s c : Addr) : Prop := ∃ l m t ns, SrcL H s c l m t ns
theorem k_cl : ¬ ((Sum.inr "cells" : Key) = (Sum.inr "left" : Key)) := by decide +kernel
theorem k_cm : ¬ ((Sum.inr "cells" : Key) = (Sum.inr "mixed" : Key)) := by decide +kernel
theorem k_ct : ¬ ((Sum.inr "cells" : Key) = (Sum.inr "turn" : Key)) := by decide +kernel
theorem k_lm : ¬ ((Sum.inr "left" : Key) = (Sum.inr "mixed" : Key)) := by decide +kernel
theorem k_lt : ¬ ((Sum.inr "left" : Key) = (Sum.inr "turn" : Key)) := by decide +kernel
theorem k_mt : ¬ ((Sum.inr "mixed" : Key) = (Sum.inr "turn" : Key)) := by decide +kernel
theorem get_cells (c : Addr) (l m t : Int) : valV (srcD c l m t) (Sum.inr "cells") = some (.ref c) := valV_pos rfl
theorem get_left (c : Addr) (l m t : Int) : valV (srcD c l m t) (Sum.inr "left") = some (.int l) := by
  unfold srcD; rw [valV_neg k_cl, valV_pos rfl]
theorem get_mixed (c : Addr) (l m t : Int) : valV (srcD c l m t) (Sum.inr "mixed") = some (.int m) := by
  unfold srcD; rw [valV_neg k_cm, valV_neg k_lm, valV_pos rfl]
theorem get_turn (c : Addr) (l m t : Int) : valV (srcD c l m t) (Sum.inr "turn") = some (.int t) := by
  unfold srcD; rw [valV_neg k_ct, valV_neg k_lt, valV_neg k_mt, valV_pos rfl]
theorem put_there {kvs : List (Key × V)} {k : Key} {u : V} (v : V) (h : valV kvs k = some u) : putK kvs k v = kvs.map (fun kv => if kv.1 = k then (kv.1, v) else kv) := by
  unfold putK
  rw [valV_any, h]
  exact if_pos rfl
theorem put_left (c : Addr) (l m t v : Int) : putK (srcD c l m t) (Sum.inr "left") (.int v) = srcD c v m t := by
  rw [put_there _ (get_left c l m t)]
  show [if (Sum.inr "cells" : Key) = (Sum.inr "left" : Key) then ((Sum.inr "cells" : Key), V.int v) else (Sum.inr "cells", V.ref c), if (Sum.inr "left" : Key) = (Sum.inr "left" : Key) then ((Sum.inr "left" : Key), V.int v) else (Sum.inr "left", V.int l),
    if (Sum.inr "mixed" : Key) = (Sum.inr "left" : Key) then ((Sum.inr "mixed" : Key), V.int v) else (Sum.inr "mixed", V.int m), if (Sum.inr "turn" : Key) = (Sum.inr "left" : Key) then ((Sum.inr "turn" : Key), V.int v) else (Sum.inr "turn", V.int t)] = _
  rw [if_neg k_cl, if_pos rfl, if_neg (Ne.symm k_lm), if_neg (Ne.symm k_lt)]
  rfl
theorem put_mixed (c : Addr) (l m t v : Int) : putK (srcD c l m t) (Sum.inr "mixed") (.int v) = srcD c l v t := by
  rw [put_there _ (get_mixed c l m t)]
  show [if (Sum.inr "cells" : Key) = (Sum.inr "mixed" : Key) then ((Sum.inr "cells" : Key), V.int v) else (Sum.inr "cells", V.ref c), if (Sum.inr "left" : Key) = (Sum.inr "mixed" : Key) then ((Sum.inr "left" : Key), V.int v) else (Sum.inr "left", V.int l),
    if (Sum.inr "mixed" : Key) = (Sum.inr "mixed" : Key) then ((Sum.inr "mixed" : Key), V.int v) else (Sum.inr "mixed", V.int m), if (Sum.inr "turn" : Key) = (Sum.inr "mixed" : Key) then ((Sum.inr "turn" : Key), V.int v) else (Sum.inr "turn", V.int t)] = _
  rw [if_neg k_cm, if_neg k_lm, if_pos rfl, if_neg (Ne.symm k_mt)]
  rfl
theorem put_turn (c : Addr) (l m t v : Int) : putK (srcD c l m t) (Sum.inr "turn") (.int v) = srcD c l m v := by
  rw [put_there _ (get_turn c l m t)]
  show [if (Sum.inr "cells" : Key) = (Sum.inr "turn" : Key) then ((Sum.inr "cells" : Key), V.int v) else (Sum.inr "cells", V.ref c), if (Sum.inr "left" : Key) = (Sum.inr "turn" : Key) then ((Sum.inr "left" : Key), V.int v) else (Sum.inr "left", V.int l),
    if (Sum.inr "mixed" : Key) = (Sum.inr "turn" : Key) then ((Sum.inr "mixed" : Key), V.int v) else (Sum.inr "mixed", V.int m), if (Sum.inr "turn" : Key) = (Sum.inr "turn" : Key) then ((Sum.inr "turn" : Key), V.int v) else (Sum.inr "turn", V.int t)] = _
  rw [if_neg k_ct, if_neg k_lt, if_neg k_mt, if_pos rfl]
  rfl
theorem srcD_made (c : Addr) (m : Int) : mergeK [] (srcD c 1 m 0) = srcD c 1 m 0 := by
  have p1 : putK ([] : List (Key × V)) (Sum.inr "cells" : Key) (V.ref c) = [((Sum.inr "cells" : Key), V.ref c)] := by rw [putK_new _ valV_nil]; rfl
  have p2 : putK ([((Sum.inr "cells" : Key), V.ref c)] : List (Key × V)) (Sum.inr "left" : Key) (V.int 1) = [((Sum.inr "cells" : Key), V.ref c), ((Sum.inr "left" : Key), V.int 1)] := by
    rw [putK_new _ (by rw [valV_neg k_cl, valV_nil])]; rfl
  have p3 : putK ([((Sum.inr "cells" : Key), V.ref c), ((Sum.inr "left" : Key), V.int 1)] : List (Key × V)) (Sum.inr "mixed" : Key) (V.int m) = [((Sum.inr "cells" : Key), V.ref c), ((Sum.inr "left" : Key), V.int 1), ((Sum.inr "mixed" : Key), V.int m)] := by
    rw [putK_new _ (by rw [valV_neg k_cm, valV_neg k_lm, valV_nil])]; rfl
  have p4 : putK ([((Sum.inr "cells" : Key), V.ref c), ((Sum.inr "left" : Key), V.int 1), ((Sum.inr "mixed" : Key), V.int m)] : List (Key × V)) (Sum.inr "turn" : Key) (V.int 0) = srcD c 1 m 0 := by
    rw [putK_new _ (by rw [valV_neg k_ct, valV_neg k_lt, valV_neg k_mt, valV_nil])]; rfl
  show putK (putK (putK (putK [] (Sum.inr "cells" : Key) (V.ref c)) (Sum.inr "left" : Key) (V.int 1)) (Sum.inr "mixed" : Key) (V.int m)) (Sum.inr "turn" : Key) (V.int 0) = srcD c 1 m 0
  rw [p1, p2, p3, p4]
theorem SrcL.ne {H : Hp} {s c : Addr} {l m t : Int} {ns : List Int} (h : SrcL H s c l m t ns) : s ≠ c := ne_of h.hs h.hc (by intro z; cases z)
/-- all but the source stands as it stood; the source is one -/
structure Go (s c : Addr) (H H' : Hp) : Prop where
  keep : ∀ a o, a ≠ s → a ≠ c → H a = some o → H' a = some o
  src : Src H' s c
theorem Src.ne_tup {H : Hp} {s c a : Addr} {xs : List V} (h : Src H s c) (e : H a = some (.tup xs)) : a ≠ s ∧ a ≠ c := by
  obtain ⟨l, m, t, ns, h⟩ := h
  exact ⟨ne_of e h.hs (by intro z; cases z), ne_of e h.hc (by intro z; cases z)⟩
theorem Src.ne_none {H : Hp} {s c a : Addr} (h : Src H s c) (e : H a = none) : a ≠ s ∧ a ≠ c := by
  obtain ⟨l, m, t, ns, h⟩ := h
  refine ⟨fun q => ?_, fun q => ?_⟩
  · rw [q, h.hs] at e
    cases e
  · rw [q, h.hc] at e
    cases e
theorem Src.same {H H' : Hp} {s c : Addr} (h : Src H s c) (e : Same H H') : Src H' s c := by
  obtain ⟨l, m, t, ns, h⟩ := h
  exact ⟨l, m, t, ns, e _ _ h.hs, e _ _ h.hc, h.l0, h.m0, h.m1, h.t0, h.n0, h.len⟩
theorem Go.refl {H : Hp} {s c : Addr} (h : Src H s c) : Go s c H H := ⟨fun _ _ _ _ e => e, h⟩
theorem Go.of {H H' : Hp} {s c : Addr} (h : Src H s c) (e : Same H H') : Go s c H H' := ⟨fun a o _ _ q => e a o q, h.same e⟩
theorem Go.trans {H H1 H2 : Hp} {s c : Addr} (a : Go s c H H1) (b : Go s c H1 H2) : Go s c H H2 := ⟨fun x o h1 h2 e => b.keep x o h1 h2 (a.keep x o h1 h2 e), b.src⟩
theorem Go.then {H H1 H2 : Hp} {s c : Addr} (a : Go s c H H1) (b : Same H1 H2) : Go s c H H2 := a.trans (.of a.src b)
theorem Go.tup {H H' : Hp} {s c a : Addr} {xs : List V} (g : Go s c H H') (h : Src H s c) (e : H a = some (.tup xs)) : H' a = some (.tup xs) :=
  g.keep _ _ (h.ne_tup e).1 (h.ne_tup e).2 e
theorem Go.lst {H H' : Hp} {s c a : Addr} {xs : List V} (g : Go s c H H') (h : Src H s c) (e : H a = some (.lst xs)) (n : a ≠ c) : H' a = some (.lst xs) := by
  obtain ⟨l, m, t, ns, h⟩ := h
  exact g.keep _ _ (ne_of e h.hs (by intro z; cases z)) n e
theorem Go.free {H H' : Hp} {s c a : Addr} (g : Go s c H H') (e : H' a = none) : H a = none := by
  have n := g.src.ne_none e
  cases q : H a with
  | none => rfl
  | some o =>
    rw [g.keep _ _ n.1 n.2 q] at e
    cases e
/-! ### what the draws promise -/
def spPick : Sp := fun vs H Q _ => ∃ (s c : Addr) (n : Int), vs = [.ref s, .int n] ∧ Src H s c ∧ 1 ≤ n ∧ n < 1000000 ∧
  ∀ (k : Int) (H' : Hp), 0 ≤ k → k < n → Go s c H H' → Q (.int k) H'
def spOf (K : PySem.W.Frag) : Sp := fun vs H Q _ => ∃ (s c a : Addr) (xs : List V), vs = [.ref s, .ref a] ∧ Src H s c ∧ H a = some (.lst xs) ∧ a ≠ c ∧ 1 ≤ xs.length ∧ xs.length < 1000000 ∧
  ∀ (i : Nat) (x : V) (H' : Hp), xs[i]? = some x → Go s c H H' → Q x H'
def spSource (K : PySem.W.Frag) : Sp := fun vs H Q _ => ∃ (a : Addr) (ns : List Int), vs = [.ref a] ∧ SqL K H a (ns.map V.int) ∧ ns.length ≤ 63 ∧
  ∀ (s c : Addr) (H' : Hp), Same H H' → H s = none → H c = none → Src H' s c → Q (.ref s) H'
def spLaw (K : PySem.W.Frag) : Sp := fun vs H Q _ => ∃ (a : Addr) (ns : List Int), vs = [.ref a] ∧ SqL K H a (ns.map V.int) ∧ ns.length ≤ 63 ∧ ∀ H', Q (.bl true) H'
end My
namespace My
open PySem PySem.Spec PyProof.Rows L2
section
variable {X : Cx}
theorem pe_gstr {x : Str} {z : Str} {pos : Pos} (hg : Gl X x) (hm : ∃ t, X.mg x = some (.str z t)) (hd : (x == ("__debug__" : Str)) = false := by decide) : PE X (.Name x pos) (tC (.str z)) := by
  obtain ⟨t, e⟩ := hm
  exact pe_glob hg e ⟨t, rfl⟩ hd
theorem pe_gint {x : Str} {i : Int} {pos : Pos} (hg : Gl X x) (hm : ∃ t, X.mg x = some (.int i t)) (hd : (x == ("__debug__" : Str)) = false := by decide) : PE X (.Name x pos) (tC (.int i)) := by
  obtain ⟨t, e⟩ := hm
  exact pe_glob hg e ⟨t, rfl⟩ hd
end
/-! ### a class of errors with one field, kept by its own __init__ -/
def classBody : Stmt → List Stmt
  | .ClassDef _ _ _ b .. => b
  | _ => []
def initOf (st : Stmt) : Stmt := (classBody st).getD 0 (.Pass ⟨0, 0, 0, 0⟩)
structure OwnE (K : PySem.W.Frag) (mg : Str → Option Value) (x q f : Str) (st : Stmt) where
  C : Addr
  fI : Addr
  fd : FuncData
  oex : OexC K C
  xf : XfC K C
  iC : PySem.W.findIn K (.ref C) "__init__" = some (some (.ref fI))
  tI : PySem.W.typeIn K (.ref fI) = some (.type "function")
  noF : PySem.W.findIn K (.ref C) f = some none
  F : Fun K "__init__" q (initOf st) fI fd
  b : Binds K fd ["self", f] []
  m : mg x = some (.ref C)
  te : PySem.W.exmOne K (.ref C) (.ref C) = some true
/-- an error of the class at C whose field f is v -/
def spInit (C : Addr) (f : Str) : Sp := fun vs H Q _ => ∃ (a : Addr) (v : V), vs = [.ref a, v] ∧ H a = some (exo a C none) ∧
  ∀ dx, H dx = none → dx ≠ a → Q .non (upd (upd H dx (exd dx [(f, v)])) a (exo a C (some dx)))
end My
namespace My
open PySem PySem.Spec PyProof.Rows L2
/-- an error of the class at S is one that «except S» takes -/
theorem exm_own {K : PySem.W.Frag} {S : Addr} (h1 : PySem.W.subIn K (.ref S) (.type "BaseException") = some true) (h2 : PySem.W.isClsIn K S = true) (h3 : PySem.W.typeIn K (.ref S) = some (.type "type")) (h4 : PySem.W.subIn K (.ref S) (.ref S) = some true) : PySem.W.exmOne K (.ref S) (.ref S) = some true := by
  have h2' : (PySem.W.clsIn K S).isSome = true := h2
  unfold PySem.W.exmOne
  unfold PySem.W.kitCls
  simp [h1, h2', h3, h4]
end My
namespace My
open PySem PySem.Spec PyProof.Rows L2
def top (i : Nat) : Stmt := PySem.Challenge.pw_eitherbarter_k19_whole_leaves_and_forks.main.body.getD i (.Pass ⟨0, 0, 0, 0⟩)
abbrev s_is_word : Stmt := top 7
abbrev s_is_empty : Stmt := top 9
abbrev s_is_fork : Stmt := top 10
abbrev s_leaves : Stmt := top 11
abbrev s_leaves_within : Stmt := top 12
abbrev s_forks : Stmt := top 13
abbrev s_forks_within : Stmt := top 14
abbrev s_check_tree : Stmt := top 15
abbrev s_wrong_side : Stmt := top 16
abbrev s_law_source : Stmt := top 18
abbrev s_law_pick : Stmt := top 19
abbrev s_law_of : Stmt := top 20
abbrev s_law_names : Stmt := top 21
abbrev s_law_odd : Stmt := top 22
abbrev s_law_leaves : Stmt := top 23
abbrev s_law_wrong_tree : Stmt := top 24
abbrev s_law_is_word : Stmt := top 25
abbrev s_law_forks_of : Stmt := top 26
abbrev s_law_drawn_tree : Stmt := top 27
abbrev s_law_bent : Stmt := top 28
abbrev s_law_refused : Stmt := top 29
abbrev s_law : Stmt := top 30
theorem sc_is_word : FnScope ["value", "sign"] ["value"] (defScope s_is_word) := ⟨rfl, rfl, rfl, by decide +kernel, rfl, by decide +kernel, by decide +kernel⟩
theorem sc_is_empty : FnScope ["value"] ["value"] (defScope s_is_empty) := ⟨rfl, rfl, rfl, by decide +kernel, rfl, by decide +kernel, by decide +kernel⟩
theorem sc_is_fork : FnScope ["value"] ["value"] (defScope s_is_fork) := ⟨rfl, rfl, rfl, by decide +kernel, rfl, by decide +kernel, by decide +kernel⟩
theorem sc_leaves : FnScope ["tree"] ["tree"] (defScope s_leaves) := ⟨rfl, rfl, rfl, by decide +kernel, rfl, by decide +kernel, by decide +kernel⟩
theorem sc_leaves_within : FnScope ["tree"] ["tree"] (defScope s_leaves_within) := ⟨rfl, rfl, rfl, by decide +kernel, rfl, by decide +kernel, by decide +kernel⟩
theorem sc_forks : FnScope ["tree"] ["tree"] (defScope s_forks) := ⟨rfl, rfl, rfl, by decide +kernel, rfl, by decide +kernel, by decide +kernel⟩
theorem sc_forks_within : FnScope ["tree", "left", "right", "name", "fork"] ["tree"] (defScope s_forks_within) := ⟨rfl, rfl, rfl, by decide +kernel, rfl, by decide +kernel, by decide +kernel⟩
theorem sc_check_tree : FnScope ["tree", "path"] ["tree"] (defScope s_check_tree) := ⟨rfl, rfl, rfl, by decide +kernel, rfl, by decide +kernel, by decide +kernel⟩
theorem sc_wrong_side : FnScope ["value", "k", "path"] ["value"] (defScope s_wrong_side) := ⟨rfl, rfl, rfl, by decide +kernel, rfl, by decide +kernel, by decide +kernel⟩
theorem sc_law_source : FnScope ["_law_script", "_law_mixed", "_law_cell"] ["_law_script"] (defScope s_law_source) := ⟨rfl, rfl, rfl, by decide +kernel, rfl, by decide +kernel, by decide +kernel⟩
theorem sc_law_pick : FnScope ["_law_source_here", "_law_many", "_law_left", "_law_mixed"] ["_law_source_here", "_law_many"] (defScope s_law_pick) := ⟨rfl, rfl, rfl, by decide +kernel, rfl, by decide +kernel, by decide +kernel⟩
theorem sc_law_of : FnScope ["_law_source_here", "_law_some"] ["_law_source_here", "_law_some"] (defScope s_law_of) := ⟨rfl, rfl, rfl, by decide +kernel, rfl, by decide +kernel, by decide +kernel⟩
theorem sc_law_names : FnScope ["_law_source_here", "_law_many", "_law_shift", "_law_names_here", "_law_tails", "_law_k", "_law_letter"] ["_law_source_here", "_law_many"] (defScope s_law_names) := ⟨rfl, rfl, rfl, by decide +kernel, rfl, by decide +kernel, by decide +kernel⟩
theorem sc_law_odd : FnScope ["_law_source_here", "_law_some"] ["_law_source_here"] (defScope s_law_odd) := ⟨rfl, rfl, rfl, by decide +kernel, rfl, by decide +kernel, by decide +kernel⟩
theorem sc_law_leaves : FnScope ["_law_tree"] ["_law_tree"] (defScope s_law_leaves) := ⟨rfl, rfl, rfl, by decide +kernel, rfl, by decide +kernel, by decide +kernel⟩
theorem sc_law_wrong_tree : FnScope ["_law_value", "_law_k", "_law_path"] ["_law_value"] (defScope s_law_wrong_tree) := ⟨rfl, rfl, rfl, by decide +kernel, rfl, by decide +kernel, by decide +kernel⟩
theorem sc_law_is_word : FnScope ["_law_value", "_law_letters", "_law_figures", "_law_sign"] ["_law_value"] (defScope s_law_is_word) := ⟨rfl, rfl, rfl, by decide +kernel, rfl, by decide +kernel, by decide +kernel⟩
theorem sc_law_forks_of : FnScope ["_law_tree", "_law_here"] ["_law_tree"] (defScope s_law_forks_of) := ⟨rfl, rfl, rfl, by decide +kernel, rfl, by decide +kernel, by decide +kernel⟩
theorem sc_law_drawn_tree : FnScope ["_law_source_here", "_law_room", "_law_names_here", "_law_left", "_law_right"] ["_law_source_here", "_law_room"] (defScope s_law_drawn_tree) := ⟨rfl, rfl, rfl, by decide +kernel, rfl, by decide +kernel, by decide +kernel⟩
theorem sc_law_bent : FnScope ["_law_source_here", "_law_tree", "_law_odd_here", "_law_way"] ["_law_source_here", "_law_tree"] (defScope s_law_bent) := ⟨rfl, rfl, rfl, by decide +kernel, rfl, by decide +kernel, by decide +kernel⟩
theorem sc_law_refused : FnScope ["_law_call", "_law_found", "e"] ["_law_call"] (defScope s_law_refused) := ⟨rfl, rfl, rfl, by decide +kernel, rfl, by decide +kernel, by decide +kernel⟩
theorem sc_law : FnScope ["_law_script", "_law_source_here", "_law_lap", "_law_tree", "_law_told", "_law_turn", "_law_bent_here", "_law_due", "_law_kept", "_law_paths", "_law_low", "_law_k", "_law_deep"] ["_law_script"] (defScope s_law) := ⟨rfl, rfl, rfl, by decide +kernel, rfl, by decide +kernel, by decide +kernel⟩
abbrev s_BadTree : Stmt := top 2
theorem sc_BadTree : FnScope ["self", "path"] ["self", "path"] (defScope (initOf s_BadTree)) := ⟨rfl, rfl, rfl, by decide +kernel, rfl, by decide +kernel, by decide +kernel⟩
structure Tx (K : PySem.W.Frag) (mg : Str → Option Value) where
  a_is_word : Addr
  fd_is_word : FuncData
  F_is_word : Fun K "is_word" "is_word" s_is_word a_is_word fd_is_word
  b_is_word : Binds K fd_is_word ["value"] []
  m_is_word : mg "is_word" = some (.ref a_is_word)
  a_is_empty : Addr
  fd_is_empty : FuncData
  F_is_empty : Fun K "is_empty" "is_empty" s_is_empty a_is_empty fd_is_empty
  b_is_empty : Binds K fd_is_empty ["value"] []
  m_is_empty : mg "is_empty" = some (.ref a_is_empty)
  a_is_fork : Addr
  fd_is_fork : FuncData
  F_is_fork : Fun K "is_fork" "is_fork" s_is_fork a_is_fork fd_is_fork
  b_is_fork : Binds K fd_is_fork ["value"] []
  m_is_fork : mg "is_fork" = some (.ref a_is_fork)
  a_leaves : Addr
  fd_leaves : FuncData
  F_leaves : Fun K "leaves" "leaves" s_leaves a_leaves fd_leaves
  b_leaves : Binds K fd_leaves ["tree"] []
  m_leaves : mg "leaves" = some (.ref a_leaves)
  a_leaves_within : Addr
  fd_leaves_within : FuncData
  F_leaves_within : Fun K "leaves_within" "leaves_within" s_leaves_within a_leaves_within fd_leaves_within
  b_leaves_within : Binds K fd_leaves_within ["tree"] []
  m_leaves_within : mg "leaves_within" = some (.ref a_leaves_within)
  a_forks : Addr
  fd_forks : FuncData
  F_forks : Fun K "forks" "forks" s_forks a_forks fd_forks
  b_forks : Binds K fd_forks ["tree"] []
  m_forks : mg "forks" = some (.ref a_forks)
  a_forks_within : Addr
  fd_forks_within : FuncData
  F_forks_within : Fun K "forks_within" "forks_within" s_forks_within a_forks_within fd_forks_within
  b_forks_within : Binds K fd_forks_within ["tree"] []
  m_forks_within : mg "forks_within" = some (.ref a_forks_within)
  a_check_tree : Addr
  fd_check_tree : FuncData
  F_check_tree : Fun K "check_tree" "check_tree" s_check_tree a_check_tree fd_check_tree
  b_check_tree : Binds K fd_check_tree ["tree"] []
  m_check_tree : mg "check_tree" = some (.ref a_check_tree)
  a_wrong_side : Addr
  fd_wrong_side : FuncData
  F_wrong_side : Fun K "wrong_side" "wrong_side" s_wrong_side a_wrong_side fd_wrong_side
  b_wrong_side : Binds K fd_wrong_side ["value"] []
  m_wrong_side : mg "wrong_side" = some (.ref a_wrong_side)
  a_law_source : Addr
  fd_law_source : FuncData
  F_law_source : Fun K "_law_source" "_law_source" s_law_source a_law_source fd_law_source
  b_law_source : Binds K fd_law_source ["_law_script"] []
  m_law_source : mg "_law_source" = some (.ref a_law_source)
  a_law_pick : Addr
  fd_law_pick : FuncData
  F_law_pick : Fun K "_law_pick" "_law_pick" s_law_pick a_law_pick fd_law_pick
  b_law_pick : Binds K fd_law_pick ["_law_source_here", "_law_many"] []
  m_law_pick : mg "_law_pick" = some (.ref a_law_pick)
  a_law_of : Addr
  fd_law_of : FuncData
  F_law_of : Fun K "_law_of" "_law_of" s_law_of a_law_of fd_law_of
  b_law_of : Binds K fd_law_of ["_law_source_here", "_law_some"] []
  m_law_of : mg "_law_of" = some (.ref a_law_of)
  a_law_names : Addr
  fd_law_names : FuncData
  F_law_names : Fun K "_law_names" "_law_names" s_law_names a_law_names fd_law_names
  b_law_names : Binds K fd_law_names ["_law_source_here", "_law_many"] []
  m_law_names : mg "_law_names" = some (.ref a_law_names)
  a_law_odd : Addr
  fd_law_odd : FuncData
  F_law_odd : Fun K "_law_odd" "_law_odd" s_law_odd a_law_odd fd_law_odd
  b_law_odd : Binds K fd_law_odd ["_law_source_here"] []
  m_law_odd : mg "_law_odd" = some (.ref a_law_odd)
  a_law_leaves : Addr
  fd_law_leaves : FuncData
  F_law_leaves : Fun K "_law_leaves" "_law_leaves" s_law_leaves a_law_leaves fd_law_leaves
  b_law_leaves : Binds K fd_law_leaves ["_law_tree"] []
  m_law_leaves : mg "_law_leaves" = some (.ref a_law_leaves)
  a_law_wrong_tree : Addr
  fd_law_wrong_tree : FuncData
  F_law_wrong_tree : Fun K "_law_wrong_tree" "_law_wrong_tree" s_law_wrong_tree a_law_wrong_tree fd_law_wrong_tree
  b_law_wrong_tree : Binds K fd_law_wrong_tree ["_law_value"] []
  m_law_wrong_tree : mg "_law_wrong_tree" = some (.ref a_law_wrong_tree)
  a_law_is_word : Addr
  fd_law_is_word : FuncData
  F_law_is_word : Fun K "_law_is_word" "_law_is_word" s_law_is_word a_law_is_word fd_law_is_word
  b_law_is_word : Binds K fd_law_is_word ["_law_value"] []
  m_law_is_word : mg "_law_is_word" = some (.ref a_law_is_word)
  a_law_forks_of : Addr
  fd_law_forks_of : FuncData
  F_law_forks_of : Fun K "_law_forks_of" "_law_forks_of" s_law_forks_of a_law_forks_of fd_law_forks_of
  b_law_forks_of : Binds K fd_law_forks_of ["_law_tree"] []
  m_law_forks_of : mg "_law_forks_of" = some (.ref a_law_forks_of)
  a_law_drawn_tree : Addr
  fd_law_drawn_tree : FuncData
  F_law_drawn_tree : Fun K "_law_drawn_tree" "_law_drawn_tree" s_law_drawn_tree a_law_drawn_tree fd_law_drawn_tree
  b_law_drawn_tree : Binds K fd_law_drawn_tree ["_law_source_here", "_law_room"] []
  m_law_drawn_tree : mg "_law_drawn_tree" = some (.ref a_law_drawn_tree)
  a_law_bent : Addr
  fd_law_bent : FuncData
  F_law_bent : Fun K "_law_bent" "_law_bent" s_law_bent a_law_bent fd_law_bent
  b_law_bent : Binds K fd_law_bent ["_law_source_here", "_law_tree"] []
  m_law_bent : mg "_law_bent" = some (.ref a_law_bent)
  a_law_refused : Addr
  fd_law_refused : FuncData
  F_law_refused : Fun K "_law_refused" "_law_refused" s_law_refused a_law_refused fd_law_refused
  b_law_refused : Binds K fd_law_refused ["_law_call"] []
  m_law_refused : mg "_law_refused" = some (.ref a_law_refused)
  a_law : Addr
  fd_law : FuncData
  F_law : Fun K "law" "law" s_law a_law fd_law
  b_law : Binds K fd_law ["_law_script"] []
  m_law : mg "law" = some (.ref a_law)
  e_BadTree : OwnE K mg "BadTree" "BadTree.__init__" "path" s_BadTree
  c_DIGITS : ∃ t, mg "DIGITS" = some (.str "0123456789" t)
  c_LETTERS : ∃ t, mg "LETTERS" = some (.str "abcdefghijklmnopqrstuvwxyz" t)
  c_LONGEST_WORD : ∃ t, mg "LONGEST_WORD" = some (.int 12 t)
  n_abs : mg "abs" = none
  n_all : mg "all" = none
  n_int : mg "int" = none
  n_isinstance : mg "isinstance" = none
  n_len : mg "len" = none
  n_list : mg "list" = none
  n_max : mg "max" = none
  n_range : mg "range" = none
  n_repr : mg "repr" = none
  n_str : mg "str" = none
  n_tuple : mg "tuple" = none
end My
namespace My
open PySem PySem.Spec PyProof.Rows L2
/-! ### lexemes, as functions of plain lists -/
abbrev SGN : Str := "(){},;"
abbrev LTR : Str := "abcdefghijklmnopqrstuvwxyz"
abbrev DIG : Str := "0123456789"
abbrev BLK : Str := " \n"
def inS (z : Str) (c : Nat) : Bool := decide (c ∈ z.cps.toList)
def txt (l : List Nat) : Str := ⟨l.toArray⟩
theorem txt_self (z : Str) : txt z.cps.toList = z := by
  obtain ⟨a⟩ := z
  show (⟨a.toList.toArray⟩ : Str) = ⟨a⟩
  rw [Array.toArray_toList]
theorem txt_len (l : List Nat) : (txt l).length = l.length := by
  show l.toArray.size = l.length
  rw [List.size_toArray]
theorem str_len (z : Str) : z.cps.toList.length = z.length := by
  show z.cps.toList.length = z.cps.size
  rw [Array.length_toList]
def runL (p : Nat → Bool) : List Nat → Nat
  | [] => 0
  | c :: r => if p c = true then runL p r + 1 else 0
theorem runL_le (p : Nat → Bool) : ∀ t : List Nat, runL p t ≤ t.length
  | [] => Nat.le_refl _
  | c :: r => by
    have ih := runL_le p r
    show (if p c = true then runL p r + 1 else 0) ≤ r.length + 1
    by_cases h : p c = true
    · rw [if_pos h]; omega
    · rw [if_neg h]; omega
theorem runL_yes {p : Nat → Bool} {c : Nat} {r : List Nat} (h : p c = true) : runL p (c :: r) = runL p r + 1 := if_pos h
theorem runL_no {p : Nat → Bool} {c : Nat} {r : List Nat} (h : p c = false) : runL p (c :: r) = 0 := if_neg (by rw [h]; exact Bool.false_ne_true)
theorem runL_nil {p : Nat → Bool} : runL p [] = 0 := rfl
def lexC (c : Nat) (r : List Nat) : Option (Str × Nat) :=
  if inS SGN c = true then some ("sign", 1)
  else if inS LTR c = true then (if runL (inS (LTR ++ DIG)) (c :: r) ≤ 12 then some ("word", runL (inS (LTR ++ DIG)) (c :: r)) else none)
  else if inS DIG c = true then some ("number", if c = 48 then 1 else runL (inS DIG) (c :: r)) else none
def lexL : List Nat → Option (Str × Nat)
  | [] => none
  | c :: r => lexC c r
theorem in_cat (c : Nat) : inS (LTR ++ DIG) c = (inS LTR c || inS DIG c) := by
  show decide (c ∈ (LTR.cps ++ DIG.cps).toList) = (decide (c ∈ LTR.cps.toList) || decide (c ∈ DIG.cps.toList))
  rw [Array.toList_append]
  by_cases h1 : c ∈ LTR.cps.toList <;> by_cases h2 : c ∈ DIG.cps.toList <;> simp [h1, h2]
theorem lexL_pos {c : Nat} {r : List Nat} {k : Str} {n : Nat} (h : lexL (c :: r) = some (k, n)) : 1 ≤ n ∧ n ≤ (c :: r).length := by
  have h : lexC c r = some (k, n) := h
  unfold lexC at h
  by_cases h1 : inS SGN c = true
  · rw [if_pos h1] at h
    cases h; exact ⟨Nat.le_refl _, Nat.succ_le_succ (Nat.zero_le _)⟩
  rw [if_neg h1] at h
  by_cases h2 : inS LTR c = true
  · rw [if_pos h2] at h
    by_cases h3 : runL (inS (LTR ++ DIG)) (c :: r) ≤ 12
    · rw [if_pos h3] at h
      cases h
      refine ⟨?_, runL_le _ _⟩
      rw [runL_yes (by rw [in_cat, h2]; rfl)]
      omega
    · rw [if_neg h3] at h
      cases h
  rw [if_neg h2] at h
  by_cases h3 : inS DIG c = true
  · rw [if_pos h3] at h
    cases h
    by_cases h4 : c = 48
    · rw [if_pos h4]; exact ⟨Nat.le_refl _, Nat.succ_le_succ (Nat.zero_le _)⟩
    · rw [if_neg h4]
      refine ⟨?_, runL_le _ _⟩
      rw [runL_yes h3]
      omega
  · rw [if_neg h3] at h
    cases h
abbrev Tk := Str × List Nat × Nat
def scanF : Nat → List Nat → Nat → List Tk × Option Nat
  | 0, _, _ => ([], none)
  | _ + 1, [], _ => ([], none)
  | f + 1, c :: r, p => if inS BLK c = true then scanF f r (p + 1) else match lexL (c :: r) with
    | none => ([], some p)
    | some (k, n) => ((k, (c :: r).take n, p) :: (scanF f ((c :: r).drop n) (p + n)).1, (scanF f ((c :: r).drop n) (p + n)).2)
theorem scanF_enough : ∀ (f g : Nat) (t : List Nat) (p : Nat), t.length < f → t.length < g → scanF f t p = scanF g t p
  | 0, _, _, _, h, _ => absurd h (Nat.not_lt_zero _)
  | _ + 1, 0, _, _, _, h => absurd h (Nat.not_lt_zero _)
  | f + 1, g + 1, [], p, _, _ => rfl
  | f + 1, g + 1, c :: r, p, h1, h2 => by
    have l : (c :: r).length = r.length + 1 := rfl
    unfold scanF
    by_cases hb : inS BLK c = true
    · rw [if_pos hb, if_pos hb]
      exact scanF_enough f g r (p + 1) (by omega) (by omega)
    · rw [if_neg hb, if_neg hb]
      cases e : lexL (c :: r) with
      | none => rfl
      | some q =>
        obtain ⟨k, n⟩ := q
        have ⟨n1, n2⟩ := lexL_pos e
        have ih := scanF_enough f g ((c :: r).drop n) (p + n) (by rw [List.length_drop]; omega) (by rw [List.length_drop]; omega)
        show ((k, (c :: r).take n, p) :: (scanF f ((c :: r).drop n) (p + n)).1, (scanF f ((c :: r).drop n) (p + n)).2) = ((k, (c :: r).take n, p) :: (scanF g ((c :: r).drop n) (p + n)).1, (scanF g ((c :: r).drop n) (p + n)).2)
        rw [ih]
def scan (t : List Nat) (p : Nat) : List Tk × Option Nat := scanF (t.length + 1) t p
theorem scan_nil (p : Nat) : scan [] p = ([], none) := rfl
theorem scan_blank {c : Nat} {r : List Nat} {p : Nat} (h : inS BLK c = true) : scan (c :: r) p = scan r (p + 1) := by
  show scanF (r.length + 1 + 1) (c :: r) p = _
  unfold scanF
  rw [if_pos h]
  rfl
theorem scan_none {c : Nat} {r : List Nat} {p : Nat} (h : inS BLK c = false) (e : lexL (c :: r) = none) : scan (c :: r) p = ([], some p) := by
  show scanF (r.length + 1 + 1) (c :: r) p = _
  unfold scanF
  rw [if_neg (by rw [h]; exact Bool.false_ne_true), e]
theorem scan_some {c : Nat} {r : List Nat} {p : Nat} {k : Str} {n : Nat} (h : inS BLK c = false) (e : lexL (c :: r) = some (k, n)) :
    scan (c :: r) p = ((k, (c :: r).take n, p) :: (scan ((c :: r).drop n) (p + n)).1, (scan ((c :: r).drop n) (p + n)).2) := by
  have ⟨n1, n2⟩ := lexL_pos e
  have l : (c :: r).length = r.length + 1 := rfl
  have q : scanF (r.length + 1) ((c :: r).drop n) (p + n) = scan ((c :: r).drop n) (p + n) := scanF_enough _ _ _ _ (by rw [List.length_drop]; omega) (Nat.lt_succ_self _)
  show scanF (r.length + 1 + 1) (c :: r) p = _
  unfold scanF
  rw [if_neg (by rw [h]; exact Bool.false_ne_true), e]
  show ((k, (c :: r).take n, p) :: (scanF (r.length + 1) ((c :: r).drop n) (p + n)).1, (scanF (r.length + 1) ((c :: r).drop n) (p + n)).2) = _
  rw [q]
/-- where the reading stops -/
def stopAt (t : List Nat) (o : Option Nat) : Nat := o.getD t.length
theorem at_drop {t : List Nat} {p : Nat} (h : p < t.length) : t.drop p = t[p] :: t.drop (p + 1) := List.drop_eq_getElem_cons h
/-! the tuples of lexemes, in the heap -/
def tkV (t : Tk) : List V := [.str t.1, .str (txt t.2.1), .int (t.2.2 : Nat)]
inductive Tks (H : Hp) : List V → List Tk → Prop
  | nil : Tks H [] []
  | cons {a : Addr} {t : Tk} {xs : List V} {ts : List Tk} (e : H a = some (.tup (tkV t))) (h : Tks H xs ts) : Tks H (.ref a :: xs) (t :: ts)
theorem Tks.keep {H H' : Hp} (g : ∀ a xs, H a = some (.tup xs) → H' a = some (.tup xs)) : ∀ {xs : List V} {ts : List Tk}, Tks H xs ts → Tks H' xs ts
  | _, _, .nil => .nil
  | _, _, .cons e h => .cons (g _ _ e) (h.keep g)
theorem Tks.same {H H' : Hp} {xs : List V} {ts : List Tk} (h : Tks H xs ts) (g : Same H H') : Tks H' xs ts := h.keep fun a _ e => g a _ e
theorem Tks.length {H : Hp} : ∀ {xs : List V} {ts : List Tk}, Tks H xs ts → xs.length = ts.length
  | _, _, .nil => rfl
  | _, _, .cons _ h => congrArg (· + 1) h.length
theorem Tks.snoc {H : Hp} {a : Addr} {t : Tk} (e : H a = some (.tup (tkV t))) : ∀ {xs : List V} {ts : List Tk}, Tks H xs ts → Tks H (xs ++ [.ref a]) (ts ++ [t])
  | _, _, .nil => .cons e .nil
  | _, _, .cons e' h => .cons e' (h.snoc e)
/-- the list at a, which is new, holds these -/
structure TkL (H : Hp) (a : Addr) (ts : List Tk) : Prop where
  at_ : ∃ xs, H a = some (.lst xs) ∧ Tks H xs ts
end My
namespace My
open PySem PySem.Spec PyProof.Rows L2
/-! ### over the signs of a text -/
theorem lc_str {z : Str} {g : TG} {tt : TT} {te : TE} {vs : List Nat} {σ : L2.St} {H1 : Hp} {D : Addr} {Qd : Hp → Prop} (Pv : Nat → Hp → Prop) (h0 : Pv 0 (L2.upd H1 D (.lst [])))
    (hs : ∀ i c H, z.cps.toList[i]? = some c → Pv i H → g (.str ⟨#[c]⟩) (wipe σ vs) H fun σ2 H2 => wipe σ2 vs = wipe σ vs ∧ tt σ2 H2 fun b H3 =>
      if b = true then te σ2 H3 (fun y H4 => ∃ acc, H4 D = some (.lst acc) ∧ acc.length < sizeLine ∧ Pv (i + 1) (L2.upd H4 D (.lst (acc ++ [y])))) else Pv (i + 1) H3)
    (hd : ∀ H, Pv z.length H → Qd H) :
    ∃ W : Nat → Nat → Hp → Prop, (∃ m, W 0 m (L2.upd H1 D (.lst []))) ∧ ∀ i m H, W i m H → ((Its z).stop i H ∧ Qd H) ∨
      ((Its z).go i H ∧ ∃ N : Hp → Prop, (∀ H', N H' → ∃ m', m' < m ∧ W (i + 1) m' H') ∧ ∀ x H', (Its z).yld i H x H' → g x (wipe σ vs) H' fun σ2 H2 => wipe σ2 vs = wipe σ vs ∧ tt σ2 H2 fun b H3 =>
        if b = true then te σ2 H3 (fun y H4 => ∃ acc, H4 D = some (.lst acc) ∧ acc.length < sizeLine ∧ N (L2.upd H4 D (.lst (acc ++ [y])))) else N H3) := by
  refine ⟨fun i m H => m = z.length - i ∧ i ≤ z.length ∧ Pv i H, ⟨z.length, rfl, Nat.zero_le _, h0⟩, fun i m H ⟨em, hi, p⟩ => ?_⟩
  by_cases hlt : i < z.length
  · refine .inr ⟨hlt, Pv (i + 1), fun H' p' => ⟨z.length - (i + 1), by omega, rfl, hlt, p'⟩, fun x H' ⟨e1, c, e2, e3⟩ => ?_⟩
    rw [e1, e3]
    exact hs i c H (by rw [Array.getElem?_toList]; exact e2) p
  · have e : i = z.length := by omega
    exact .inl ⟨Nat.le_of_not_lt hlt, hd H (e ▸ p)⟩
theorem for_str {z : Str} {g : TG} {tb : TS} {D : Ends} {σ : L2.St} {H : Hp} (Pv : Nat → L2.St → Hp → Prop) (h0 : Pv 0 σ H)
    (hs : ∀ i c σ H, z.cps.toList[i]? = some c → Pv i σ H → g (.str ⟨#[c]⟩) σ H fun σ2 H2 => tb { D with nx := Pv (i + 1), ct := Pv (i + 1), bk := D.nx } σ2 H2) (hd : ∀ σ H, Pv z.length σ H → D.nx σ H) :
    ∃ W : Nat → Nat → L2.St → Hp → Prop, (∃ m, W 0 m σ H) ∧ ∀ i m σ H, W i m σ H → ((Its z).stop i H ∧ D.nx σ H) ∨
      ((Its z).go i H ∧ ∃ N : L2.St → Hp → Prop, (∀ σ' H', N σ' H' → ∃ m', m' < m ∧ W (i + 1) m' σ' H') ∧ ∀ x H', (Its z).yld i H x H' → g x σ H' fun σ2 H2 => tb { D with nx := N, ct := N, bk := D.nx } σ2 H2) := by
  refine ⟨fun i m σ H => m = z.length - i ∧ i ≤ z.length ∧ Pv i σ H, ⟨z.length, rfl, Nat.zero_le _, h0⟩, fun i m σ H ⟨em, hi, p⟩ => ?_⟩
  by_cases hlt : i < z.length
  · refine .inr ⟨hlt, Pv (i + 1), fun σ' H' p' => ⟨z.length - (i + 1), by omega, rfl, hlt, p'⟩, fun x H' ⟨e1, c, e2, e3⟩ => ?_⟩
    rw [e1, e3]
    exact hs i c σ H (by rw [Array.getElem?_toList]; exact e2) p
  · have e : i = z.length := by omega
    exact .inl ⟨Nat.le_of_not_lt hlt, hd σ H (e ▸ p)⟩
end My
namespace My
open PySem PySem.Spec PyProof.Rows L2
/-! ### a def that is called where nothing is being shown: its body may show values -/
structure FnG (P : Program) (w : World) (K : PySem.W.Frag) (mg : Str → Option Value) (base : Heap) (k : Nat) (f : Addr) (fd : FuncData) (ps : List Str) (sp : Sp) : Prop where
  len : ∀ vs H Q E, sp vs H Q E → vs.length = ps.length
  run : ∀ (A : Around), A.guards = some [] → Room k A → ∀ (outer : List Env) (s : Shared) (H : Hp), Env0 P w K mg base A outer s H → ∀ (args : Args) (us : List Value), BindsTo s fd args (ps.zip us) →
    ∀ (vs : List V), Vals vs us → ∀ (Q : VK) (E : XK), sp vs H Q E → codeAny (model P w) A (.call (.ref f) args) (CR CX0 outer P w H s Q E) s
section
variable {P : Program} {w : World} {K : PySem.W.Frag} {mg : Str → Option Value} {base : Heap}
theorem FnG.of {x qual : Str} {st : Stmt} {f : Addr} {fd : FuncData} {N ps : List Str} {k : Nat} {sp : Sp} (F : Fun K x qual st f fd) (S : FnScope N ps (defScope st)) (len : ∀ vs H Q E, sp vs H Q E → vs.length = ps.length)
    (body : ∀ (cdv : Value) (A : Around) (outer : List Env) (s : Shared) (H : Hp) (vs : List V) (Q : VK) (E : XK), A.guards = some [] → Room k (A.deeper (envOfC qual (defScope st) s.heap.objs.size f cdv)) → sp vs H Q E →
      ∃ t, PSs (cxOf CX0 P w K mg base N qual (defScope st) f cdv A outer s H E).nox (defBody st) t ∧ t { nx := fun _ H' => Q .non H', rt := Q } (start N vs) H) :
    FnG P w K mg base (k + 1) f fd ps sp := by
  obtain ⟨oc, od, kV, doc, pm, an, cdv, ct, osl, rfl, lk, hcd⟩ := F.ex
  refine ⟨len, fun A hg hr outer s H e0 args us hb vs r Q E hsp => ?_⟩
  have KX : K.In s.heap := e0.mod.kin.keeps fun b o q => (e0.bs b o q).1
  have nl : s.heap.NoLimit := e0.mod.nolimit.keeps fun b o q => (e0.bs b o q).1
  have kinds : ∀ y ∈ ps.zip us, (defScope st).names.lookup y.1 = some .local ∨ ((defScope st).names.lookup y.1 = some .cell ∧ ((cellsFrom (s.heap.objs.size + 1) (defScope st).names []).lookup y.1).isSome = true) := by
    rintro ⟨n, v⟩ hy
    have q := S.par n (List.of_mem_zip hy).1
    exact q.imp id fun q => ⟨q, PySem.W.cellsFrom_some _ _ _ (.inl q)⟩
  refine codeAny_call_function hr.depth (KX _ _ lk) rfl S.co S.gen rfl (PySem.W.codeRec_of KX hcd) (hb _ _ _ _ (wpAny_newFunctionEnv_cells S.kind kinds fun env he s1 x => ?_))
  subst he
  refine ⟨nl.keeps x.toInCall.keep, codeAny_func ?_⟩
  obtain ⟨t, ht, hq⟩ := body cdv A outer s H vs Q E hg (hr.deeper _) hsp
  have I : Inv (cxOf CX0 P w K mg base N qual (defScope st) f cdv A outer s H E) [] (start N vs) H s1 := inv_start S hr.hd e0 (len _ _ _ _ hsp) r x
  refine wpAny_mono (ht.nox.run [] s1 (start N vs) H _ I hq) (fun fl s' hs => ?_) (fun e s' hs => hs)
  have last : ∀ {σ' : L2.St} {H' : Hp} {v : V} {u : Value}, Inv (cxOf CX0 P w K mg base N qual (defScope st) f cdv A outer s H E) [] σ' H' s' → RelV v u → Q v H' → CE outer P w H s Q u s' := fun J rv q => ⟨_, _, J.os, J.bare, J.base, J.hok, rv, q⟩
  rcases fl with _ | _ | _ | u
  all_goals first
    | (obtain ⟨v, σ', H', J, rv, q⟩ := hs; exact last J rv q)
    | (obtain ⟨σ', H', J, q⟩ := hs; exact last (v := V.non) (u := Value.none) J rfl q)
    | (obtain ⟨_, _, _, q⟩ := hs; exact False.elim q)
/-- the law's def, called by the one who asks for the proof -/
theorem law_runG {k : Nat} {fa a : Addr} {fd : FuncData} {x : Str} {sp : Sp} {mb : Str → Option Value} {s₁ : Shared} {vs : List Value} {ns : List Int}
    (KX : K.In s₁.heap) (hns : s₁.heap.Ns mainGlobals mg) (hb : s₁.heap.Ns builtinsNs mb) (hbb : ∀ x : Str, x ≠ "__name__" → mb x = bootBuiltins x) (nl : s₁.heap.NoLimit) (hg : s₁.gens = #[])
    (ha : s₁.heap.get? a = some { cls := .type "list", data := .seq vs.toArray }) (hi : IntsAre vs ns) (hl : ns.length ≤ sizeLine) (hr : Room k callerA)
    (F : ∀ base : Heap, K.In base → base.Ns mainGlobals mg → FnG P w K mg base k fa fd [x] sp) (bind : ∀ (s : Shared) (u : Value), BindsTo s fd ⟨[u], []⟩ [(x, u)])
    (hsp : ∀ H : Hp, Only H → SqL K H a (ns.map V.int) → sp [.ref a] H (fun v _ => v = .bl true) fun _ _ _ => False) :
    codeAny (model P w) callerA (.call (.ref fa) ⟨[.ref a], []⟩) (fun r s' => r = .ok (.ret (.bool true)) ∧ OldK s₁.heap s'.heap ∧ s'.os = s₁.os ∧ AllBare s'.gens) s₁ := by
  have rv := vals_ints hi
  have lv := hi.length
  have core : ∀ H : Hp, Only H ∧ SqL K H a (ns.map V.int) ∧ HOk P w H s₁.heap ∧ (∀ b, H b ≠ none → b = a) ∧ (H a ≠ none → K.lookup a = none) →
      codeAny (model P w) callerA (.call (.ref fa) ⟨[.ref a], []⟩) (fun r s' => r = .ok (.ret (.bool true)) ∧ OldK s₁.heap s'.heap ∧ s'.os = s₁.os ∧ AllBare s'.gens) s₁ := by
    rintro H ⟨hO, hS, hok, hA, hK⟩
    have no : ∀ {b : Addr}, b ≠ a → H b = none := fun {b} n => by
      cases q : H b with
      | none => rfl
      | some u => exact absurd (hA b fun z => by rw [q] at z; cases z) n
    have dicts : ∀ {b : Addr} {o : Obj} {es : Array DictEntry} {ep : Nat}, s₁.heap.get? b = some o → o.data = .dict es ep → (hidT s₁.heap H).get? b = some o := fun {b o es ep} e d => hidT_get e (no fun z => by
      rw [z, ha] at e
      have e' := Option.some.inj e
      rw [← e'] at d
      exact Data.noConfusion d)
    have nsK : ∀ {b : Addr} {m : Str → Option Value}, s₁.heap.Ns b m → (hidT s₁.heap H).Ns b m := fun z => by
      obtain ⟨o, es, ep, e, d, r⟩ := z
      exact ⟨o, es, ep, dicts e d, d, r⟩
    have inK : K.In (hidT s₁.heap H) := fun b o e => by
      refine hidT_get (KX b o e) ?_
      by_cases hb : b = a
      · cases q : H b with
        | none => rfl
        | some u =>
          have z := hK (by rw [← hb, q]; exact fun z => nomatch z)
          rw [hb, z] at e
          cases e
      · exact no hb
    obtain ⟨mc, c1, c2⟩ := nl
    have e0 : Env0 P w K mg (hidT s₁.heap H) callerA [] s₁ H :=
      { frames := rfl, mod := ⟨inK, nsK hns, ⟨mb, nsK hb, hbb⟩, ⟨mc, nsK c1, c2⟩⟩, bs := fun b o e => of_hidT e, bsz := Nat.le_of_eq (hidT_size _ _), funs := trivial, frf := fun b z => absurd z List.not_mem_nil, hok := hok, bare := .of_eq hg }
    refine codeAny_mono ((F _ inK (nsK hns)).run callerA rfl hr [] s₁ H e0 ⟨[.ref a], []⟩ [.ref a] (bind s₁ (.ref a)) [.ref a] (.cons rfl .nil) _ _ (hsp H hO hS)) fun r s' h => ?_
    rcases r with e | fl
    · exact False.elim h
    rcases fl with _ | _ | _ | u
    all_goals first
      | exact False.elim h
      | skip
    obtain ⟨v, H', os, bare, un, hok', r', q⟩ := h
    have q' : v = .bl true := q
    rw [q'] at r'
    have r2 : u = Value.bool true := r'
    refine ⟨by rw [r2], OldK.of_keep fun b o e => ?_, os, bare⟩
    rcases hO b with z | ⟨ob, xs, z⟩
    · exact un.keep b o e z List.not_mem_nil List.not_mem_nil
    · have z1 := (hok b _ z).1
      have z2 := (hok' b _ (un.frzs b ob _ z)).1
      rw [e] at z1
      cases z1
      exact z2
  cases hk : K.lookup a with
  | some o =>
    have e := KX a o hk
    rw [ha] at e
    cases e
    exact core (fun _ => none) ⟨fun _ => .inl rfl, .inr ⟨_, vs.toArray, _, hk, rfl, rfl, rfl, by rw [List.size_toArray, lv]; exact hl, by simpa using rv⟩, (fun b u z => nomatch z), fun b z => absurd rfl z, fun z => absurd rfl z⟩
  | none =>
    have at_ : ∀ {b : Addr} {u : HO}, (if b = a then some (HO.frz { cls := .type "list", data := .seq vs.toArray } (.lst (ns.map V.int))) else none) = some u → b = a ∧ u = HO.frz { cls := .type "list", data := .seq vs.toArray } (.lst (ns.map V.int)) := fun {b u} z => by
      by_cases h : b = a
      · rw [if_pos h] at z; exact ⟨h, (Option.some.inj z).symm⟩
      · rw [if_neg h] at z; cases z
    refine core (fun b => if b = a then some (.frz { cls := .type "list", data := .seq vs.toArray } (.lst (ns.map V.int))) else none) ⟨fun b => ?_, .inl (.inr ⟨_, if_pos rfl⟩), fun b u z => ?_, fun b z => ?_, fun _ => hk⟩
    · by_cases h : b = a
      · exact .inr ⟨_, _, if_pos h⟩
      · exact .inl (if_neg h)
    · obtain ⟨rfl, rfl⟩ := at_ z
      exact ⟨ha, by rw [List.length_map]; exact hl, vs, _, rv, ha⟩
    · by_cases h : b = a
      · exact h
      · exact absurd (if_neg h) z
end
/-- the walk's goal from the law's promise, the values being shown within -/
theorem walk_ofG {l : PySem.W.OpenLaw} {n k : Nat} {q : Program} {loose : List Str} {XP : (Str → Option Value) → Heap → Prop} {YP : World → Heap → Prop} {d : DefRec} {K : Params → PySem.W.Frag} {sp : World → Sp} {x : Str}
    (hn : l.most = some n) (hn2 : n ≤ sizeLine) (hdf : d.params.defaults = []) (hr : Room k callerA) (hY : ∀ (w : World) (h : Heap), YP w h → (K w.params).In h)
    (F : ∀ (w : World) (mg : Str → Option Value) (fa : Addr) (h : Heap), (K w.params).In h → h.Ns mainGlobals mg → mg d.name = some (.ref fa) → ∃ fd : FuncData, (∀ (s : Shared) (u : Value), BindsTo s fd ⟨[u], []⟩ [(x, u)]) ∧
      ∀ base : Heap, (K w.params).In base → base.Ns mainGlobals mg → FnG l.prog w (K w.params) mg base k fa fd [x] (sp w))
    (hsp : ∀ (w : World) (H : Hp) (a : Addr) (ns : List Int), ns.length ≤ n → Only H → SqL (K w.params) H a (ns.map V.int) → sp w [.ref a] H (fun v _ => v = .bl true) fun _ _ _ => False) :
    PySem.W.WalkO q loose XP YP l.row.toRowW d [] (fun f vs => PySem.call f vs) :=
  Att.attach_call hn hdf fun w s₀ s₁ mg mb fa o pm cd doc a vs ns G Y _ _ _ hmg ho hi hlen hg => by
    obtain ⟨fd, b, hF⟩ := F w mg fa _ (hY w _ Y) G.T.g hmg
    exact law_runG (hY w _ Y) G.T.g G.T.b G.T.builtins G.T.nolimit hg ho hi (Nat.le_trans hlen hn2) hr hF b fun H hO hS => hsp w H a ns hlen hO hS
end My
namespace My
open PySem PySem.Spec PyProof.Rows L2
/-! ### repr of data at any depth -/
mutual
theorem Dp.noDict {K : PySem.W.Frag} {H : Hp} : ∀ {v : V} {d : PyData}, Dp K H v d → d.hasDict = false
  | _, _, .non => rfl
  | _, _, .bl _ => rfl
  | _, _, .int _ => rfl
  | _, _, .str _ => rfl
  | _, _, .lst _ h => My.DpAll.noDict h
  | _, _, .tup _ h => My.DpAll.noDict h
theorem DpAll.noDict {K : PySem.W.Frag} {H : Hp} : ∀ {vs : List V} {ds : List PyData}, DpAll K H vs ds → PyData.hasDictAll ds = false
  | _, _, .nil => rfl
  | _, _, .cons h hs => by
    show (_ || _) = false
    rw [My.Dp.noDict h, My.DpAll.noDict hs]
    rfl
end
section
variable {X : Cx}
def rReprD (K : PySem.W.Frag) : List V → Hp → VK → Prop := fun xs H Q => ∃ (a : Addr) (d : PyData), xs = [.ref a] ∧ Dp K H (.ref a) d ∧ d.showable = true ∧ d.depth ≤ 60 ∧ d.shown.length ≤ sizeLine ∧ Q (.str d.shown) H
theorem call_repr_D (hg : X.A.guards = some []) (hu : X.A.units + 64 < cLine) : CallR X (.builtin "repr") (rReprD X.K) := by
  intro pins s σ H xs us Q I r h
  obtain ⟨a, d, rfl, dp, sh, dd, sz, q⟩ := h
  obtain ⟨u, rfl, r1⟩ := vals1 r
  cases (show u = Value.ref a from r1)
  obtain ⟨as, hr⟩ := Dp.reads I d _ _ dp rfl
  have nd := My.Dp.noDict dp
  exact repr_of_reads' hr sh (fun z => by rw [nd] at z; cases z) hg (by omega) (fun _ _ e => e) (fun h' u tk hk => ⟨.str d.shown, H, I.kept hk, ⟨u, rfl⟩, q⟩) sz
end
theorem seqT {K : PySem.W.Frag} {H H' : Hp} {a : Addr} {xs : List V} (e : Same H H') (h : SqT K H a xs) : SqT K H' a xs := by
  rcases h with h | h
  · refine .inl ?_
    rcases h with h | h
    · exact .inl (e _ _ h)
    · obtain ⟨o, h⟩ := h
      exact .inr ⟨o, e _ _ h⟩
  · exact .inr h
mutual
theorem Dp.same {K : PySem.W.Frag} {H H' : Hp} (e : Same H H') : ∀ {v : V} {d : PyData}, Dp K H v d → Dp K H' v d
  | _, _, .non => .non
  | _, _, .bl b => .bl b
  | _, _, .int i => .int i
  | _, _, .str x => .str x
  | _, _, .lst h hs => .lst (e.seq h) (My.DpAll.same e hs)
  | _, _, .tup h hs => .tup (seqT e h) (My.DpAll.same e hs)
theorem DpAll.same {K : PySem.W.Frag} {H H' : Hp} (e : Same H H') : ∀ {vs : List V} {ds : List PyData}, DpAll K H vs ds → DpAll K H' vs ds
  | _, _, .nil => .nil
  | _, _, .cons h hs => .cons (My.Dp.same e h) (My.DpAll.same e hs)
end
end My
namespace My
open PySem PySem.Spec PyProof.Rows L2
section
variable {X : Cx}
theorem op_notIn_rng : OpR X (compareOp .NotIn) (fun x y H Q => ∃ i a lo hi, x = V.int i ∧ y = V.ref a ∧ H a = some (.rng lo hi) ∧ Q (.bl (!decide (lo ≤ i ∧ i < hi))) H) := by
  intro pins s σ H x y v u Q I rx ry h
  obtain ⟨i, a, lo, hi, rfl, rfl, ha, q⟩ := h
  obtain ⟨k, rfl⟩ := rx
  have eu : u = Value.ref a := ry
  rw [eu]
  obtain ⟨t1, t2, t3, ho⟩ := I.hok a _ ha
  show wpAny _ _ (do return Value.bool (!(← contains (Value.ref a) (Value.int i k)))) _ _ s
  refine wpAny_bind (wpAny_contains_slot (T := "range") ⟨_, ho, rfl⟩ F.slot_range_contains (call_meets F.slot_range_contains ⟨_, ho, rfl⟩ F.entry_range_contains
    (F.args_range_contains_2 _ _) (q_contains a lo hi i t1 t2 t3 k) ⟨ho, wpAny_truthy_bool (wpAny_pure ⟨.bl _, H, I, rfl, by rw [place1]; exact q⟩)⟩))
end
end My
namespace My
open PySem PySem.Spec PyProof.Rows L2
section
variable {X : Cx} {es : List Expr} {t : TA} {pos : Pos}
/-- a list display whose list is told to lie above the table of modules -/
def tLstN (t : TA) : TE := fun σ H Q => t σ H fun xs H1 => xs.length ≤ sizeLine ∧ ∀ p, H1 p = none → sysModules < p → Q (.ref p) (L2.upd H1 p (.lst xs))
theorem pe_lstN (h : PA X es t) : PE X (.List es pos) (tLstN t) := by
  refine ⟨fun pins s σ H Q I hq => wpAny_List_spliced (thn (h.run pos pins s σ H _ I hq) ?_)⟩
  rintro us s1 ⟨xs, H1, I1, r, z, q⟩
  have fr : H1 s1.heap.objs.size = none := I1.hok.fresh (Nat.le_refl _)
  refine ⟨by rw [← r.length]; exact z, .ref s1.heap.objs.size, L2.upd H1 s1.heap.objs.size (.lst xs), ?_, rfl, q _ fr I1.big⟩
  exact I1.laid (t' := s1.toks) (fun b u e => Heap.get?_push_of_some _ e) (Nat.le_refl _) ⟨z, us, 0, r, Heap.get?_push_size _ rfl⟩
/-- list(..) of a list or tuple, likewise -/
theorem call_list_ofN : CallR X (.type "list") (fun xs H Q => ∃ p ys, xs = [.ref p] ∧ (SqL X.K H p ys ∨ SqT X.K H p ys) ∧ ∀ l, H l = none → sysModules < l → Q (.ref l) (L2.upd H l (.lst ys))) := by
  intro pins s σ H xs us Q I r h
  obtain ⟨p, ys, rfl, hq, q⟩ := h
  obtain ⟨u, rfl, rx⟩ := vals1 r
  cases rx
  have big := I.big
  have fr : H s.heap.objs.size = none := I.hok.fresh (Nat.le_refl _)
  have fin : ∀ (its : List Value), Vals ys its → ys.length ≤ sizeLine → ∀ (h' : Heap) (c' : Nat), (∀ b o', s.heap.get? b = some o' → h'.get? b = some o') → h'.get? s.heap.objs.size = some { cls := .type "list", dict := none, data := .seq its.toArray c', slots := #[] } →
      EP X pins σ Q (.ref s.heap.objs.size) { s with heap := h' } := by
    intro its r' hz h' c' kp e
    refine ⟨.ref s.heap.objs.size, L2.upd H s.heap.objs.size (.lst ys), I.laid (t' := s.toks) kp (Nat.le_refl _) ?_, rfl, q _ fr big⟩
    exact (show ObjOk X.prog X.w _ h' _ (.lst ys) from ⟨hz, its, c', r', e⟩)
  rcases hq with hq | hq
  · obtain ⟨its, r', pl, hz⟩ := I.list hq
    have hlen := r'.length
    obtain ⟨o, ho, hc, n, hd⟩ := pl.isList
    exact call_list_seq p (.inl rfl) ho hc hd (fun h' c' kp e => fin its r' hz h' c' kp e) (by rw [List.size_toArray]; omega)
  · obtain ⟨its, r', pl, hz⟩ := I.tuple hq
    have hlen := r'.length
    obtain ⟨o, ho, hc, n, hd⟩ := pl
    exact call_list_seq p (.inr rfl) ho hc hd (fun h' c' kp e => fin its r' hz h' c' kp e) (by rw [List.size_toArray]; omega)
end
end My
namespace My
open PySem PySem.Spec PyProof.Rows L2
/-! ### values at any depth, dicts among them -/
/-- the dicts that occur -/
inductive DctE : List (Key × V) → List (PyData × PyData) → Prop
  | none : DctE [] []
  | one : DctE [(.inl 0, .int 1)] [(.int 0, .int 1)]
mutual
inductive Dq (H : Hp) : V → PyData → Prop
  | non : Dq H .non .none
  | bl (b : Bool) : Dq H (.bl b) (.bool b)
  | int (i : Int) : Dq H (.int i) (.int i)
  | str (x : Str) : Dq H (.str x) (.str x)
  | lst {a : Addr} {xs : List V} {ds : List PyData} : H a = some (.lst xs) → sysModules < a → DqAll H xs ds → Dq H (.ref a) (.list ds)
  | tup {a : Addr} {xs : List V} {ds : List PyData} : H a = some (.tup xs) → DqAll H xs ds → Dq H (.ref a) (.tuple ds)
  | dct {a : Addr} {kvs : List (Key × V)} {es : List (PyData × PyData)} : H a = some (.dK kvs) → DctE kvs es → Dq H (.ref a) (.dict es)
inductive DqAll (H : Hp) : List V → List PyData → Prop
  | nil : DqAll H [] []
  | cons {v : V} {vs : List V} {d : PyData} {ds : List PyData} : Dq H v d → DqAll H vs ds → DqAll H (v :: vs) (d :: ds)
end
mutual
theorem Dq.same {H H' : Hp} (e : Same H H') : ∀ {v : V} {d : PyData}, Dq H v d → Dq H' v d
  | _, _, .non => .non
  | _, _, .bl b => .bl b
  | _, _, .int i => .int i
  | _, _, .str x => .str x
  | _, _, .lst h n hs => .lst (e _ _ h) n (DqAll.same e hs)
  | _, _, .tup h hs => .tup (e _ _ h) (DqAll.same e hs)
  | _, _, .dct h x => .dct (e _ _ h) x
theorem DqAll.same {H H' : Hp} (e : Same H H') : ∀ {vs : List V} {ds : List PyData}, DqAll H vs ds → DqAll H' vs ds
  | _, _, .nil => .nil
  | _, _, .cons h hs => .cons (Dq.same e h) (DqAll.same e hs)
end
theorem DqAll.length {H : Hp} : ∀ {vs : List V} {ds : List PyData}, DqAll H vs ds → vs.length = ds.length
  | _, _, .nil => rfl
  | _, _, .cons _ h => congrArg (· + 1) h.length
theorem DqAll.get {H : Hp} : ∀ {vs : List V} {ds : List PyData} {i : Nat} {d : PyData}, DqAll H vs ds → ds[i]? = some d → ∃ v, vs[i]? = some v ∧ Dq H v d
  | _, _, 0, _, .cons h _, e => by
    cases e
    exact ⟨_, rfl, h⟩
  | _, _, i + 1, _, .cons _ hs, e => hs.get (i := i) e
/-- the kind's name -/
def tyD : PyData → String
  | .none => "NoneType"
  | .bool _ => "bool"
  | .int _ => "int"
  | .str _ => "str"
  | .list _ => "list"
  | .tuple _ => "tuple"
  | .dict _ => "dict"
theorem Dq.ty {K : PySem.W.Frag} {H : Hp} {v : V} {d : PyData} (h : Dq H v d) : TyX K H v (.type (tyD d)) := by
  cases h with
  | non => exact .base .non
  | bl b => exact .base (.bl b)
  | int i => exact .base (.int i)
  | str x => exact .base (.str x)
  | lst e _ _ => exact .base (.lst e)
  | tup e _ => exact .base (.tup e)
  | dct e _ => exact .base (.dK e)
theorem is_str {K : PySem.W.Frag} (d : PyData) : PySem.W.kitOne K (.type (tyD d)) (.type "str") = some (decide (tyD d = "str")) := by
  cases d with
  | none  => exact (kit_ty (r := false) (by decide +kernel) : PySem.W.kitOne K (.type "NoneType") (.type "str") = some false)
  | bool _ => exact (kit_ty (r := false) (by decide +kernel) : PySem.W.kitOne K (.type "bool") (.type "str") = some false)
  | int _ => exact (kit_ty (r := false) (by decide +kernel) : PySem.W.kitOne K (.type "int") (.type "str") = some false)
  | str _ => exact (kit_ty (r := true) (by decide +kernel) : PySem.W.kitOne K (.type "str") (.type "str") = some true)
  | list _ => exact (kit_ty (r := false) (by decide +kernel) : PySem.W.kitOne K (.type "list") (.type "str") = some false)
  | tuple _ => exact (kit_ty (r := false) (by decide +kernel) : PySem.W.kitOne K (.type "tuple") (.type "str") = some false)
  | dict _ => exact (kit_ty (r := false) (by decide +kernel) : PySem.W.kitOne K (.type "dict") (.type "str") = some false)
theorem is_tup {K : PySem.W.Frag} (d : PyData) : PySem.W.kitOne K (.type (tyD d)) (.type "tuple") = some (decide (tyD d = "tuple")) := by
  cases d with
  | none  => exact (kit_ty (r := false) (by decide +kernel) : PySem.W.kitOne K (.type "NoneType") (.type "tuple") = some false)
  | bool _ => exact (kit_ty (r := false) (by decide +kernel) : PySem.W.kitOne K (.type "bool") (.type "tuple") = some false)
  | int _ => exact (kit_ty (r := false) (by decide +kernel) : PySem.W.kitOne K (.type "int") (.type "tuple") = some false)
  | str _ => exact (kit_ty (r := false) (by decide +kernel) : PySem.W.kitOne K (.type "str") (.type "tuple") = some false)
  | list _ => exact (kit_ty (r := false) (by decide +kernel) : PySem.W.kitOne K (.type "list") (.type "tuple") = some false)
  | tuple _ => exact (kit_ty (r := true) (by decide +kernel) : PySem.W.kitOne K (.type "tuple") (.type "tuple") = some true)
  | dict _ => exact (kit_ty (r := false) (by decide +kernel) : PySem.W.kitOne K (.type "dict") (.type "tuple") = some false)
def isAl (c : Nat) : Bool := inS LTR c || inS DIG c
/-! what is asked of trees, as functions -/
def wordD : PyData → Bool
  | .str x => decide (x.length ≤ 12) && (match x.cps.toList with
    | [] => false
    | c :: r => inS LTR c && (c :: r).all isAl)
  | _ => false
def forkD : PyData → Bool
  | .tuple ds => decide (ds.length = 3)
  | _ => false
def emptyD : PyData → Bool
  | .tuple ds => decide (ds.length = 0)
  | _ => false
def nthD (d : PyData) (i : Nat) : PyData := match d with
  | .tuple ds => ds.getD i .none
  | _ => .none
def noneD : PyData → Bool
  | .none => true
  | _ => false
/-- the first wrong side, if any -/
def wrongF : Nat → PyData → Option (List Int)
  | 0, _ => some []
  | n + 1, d => if wordD d = true then none else if forkD d = false then some [] else match wrongF n (nthD d 0) with
    | some p => some (0 :: p)
    | none => match wrongF n (nthD d 1) with
      | some p => some (1 :: p)
      | none => if noneD (nthD d 2) = true ∨ wordD (nthD d 2) = true then none else some [2]
def leavesF : Nat → PyData → List PyData
  | 0, _ => []
  | n + 1, d => if forkD d = true then leavesF n (nthD d 0) ++ leavesF n (nthD d 1) else if emptyD d = true then [] else [d]
def forksF : Nat → PyData → List PyData
  | 0, _ => []
  | n + 1, d => if forkD d = false then [] else [.tuple [nthD d 2, .tuple (leavesF n (nthD d 0)), .tuple (leavesF n (nthD d 1))]] ++ forksF n (nthD d 0) ++ forksF n (nthD d 1)
theorem Dq.fork {H : Hp} {v : V} {d : PyData} (h : Dq H v d) (f : forkD d = true) : ∃ (a : Addr) (x y z : V), v = .ref a ∧ H a = some (.tup [x, y, z]) ∧ Dq H x (nthD d 0) ∧ Dq H y (nthD d 1) ∧ Dq H z (nthD d 2) := by
  cases h with
  | tup e hs =>
    rename_i a xs ds
    have l : ds.length = 3 := of_decide_eq_true f
    match ds, xs, hs, l with
    | [d0, d1, d2], [x, y, z], .cons h0 (.cons h1 (.cons h2 .nil)), _ => exact ⟨a, x, y, z, rfl, e, h0, h1, h2⟩
  | non => cases f
  | bl _ => cases f
  | int _ => cases f
  | str _ => cases f
  | lst _ _ _ => cases f
  | dct _ _ => cases f
end My
namespace My
open PySem PySem.Spec PyProof.Rows L2
def spAsk (f : PyData → Bool) : Sp := fun vs H Q _ => ∃ (v : V) (d : PyData), vs = [v] ∧ Dq H v d ∧ ∀ H', Same H H' → Q (.bl (f d)) H'
/-- texts among the values are short -/
theorem sz6 {n : Nat} (h : n ≤ 100000) : n ≤ sizeLine := by rw [sizeLine_eq]; omega
theorem dec0 (n : Nat) : decide (V.int (n : Int) = V.int 0) = decide (n = 0) := decide_eq_decide.mpr ⟨fun e => by have := V.int.inj e; omega, fun e => by rw [e]; rfl⟩
theorem dec3 (n : Nat) : decide (V.int (n : Int) = V.int 3) = decide (n = 3) := decide_eq_decide.mpr ⟨fun e => by have := V.int.inj e; omega, fun e => by rw [e]; rfl⟩
section
variable {P : Program} {w : World} {K : PySem.W.Frag} {mg : Str → Option Value} {base : Heap}
theorem ok_is_empty (T : Tx K mg) : FnOk P w K mg base CX0 1 T.a_is_empty T.fd_is_empty ["value"] (spAsk emptyD) := by
  refine T.F_is_empty.ok sc_is_empty (fun vs H Q E h => ?_) (fun cdv A outer st H vs Q E hr h => ?_)
  · obtain ⟨v, d, rfl, _⟩ := h
    rfl
  obtain ⟨v, d, rfl, dq, k⟩ := h
  refine ⟨_, ((pss_one (ps_ret (pe_and (pe_callB (show CallR _ (.builtin "isinstance") (rIsi K) from call_isi) (by rfl) T.n_isinstance (by decide +kernel) (pa_cons (pv 0) (pa_cons (pe_bltn (v := .ty "tuple") (by rfl) T.n_tuple (by decide +kernel) rfl) pa_nil))) (pe_one (pe_cmpR op_eq (pe_callB call_len_seq (by rfl) T.n_len (by decide +kernel) (pa_cons (pv 0) pa_nil)) pe_int (nomark _))))))), ?_⟩
  refine ⟨_, rfl, v, .ty "tuple", .type (tyD d), .type "tuple", _, rfl, .ty _, dq.ty, is_tup d, ?_⟩
  have k0 := k H (Same.refl H)
  cases dq with
  | tup e hs =>
    refine ⟨_, rfl, iteT ⟨_, rfl, _, _, rfl, .inr (SqT.of e), rfl, ?_⟩⟩
    rw [hs.length, dec0]
    exact k0
  | non => exact ⟨_, rfl, iteF k0⟩
  | bl _ => exact ⟨_, rfl, iteF k0⟩
  | int _ => exact ⟨_, rfl, iteF k0⟩
  | str _ => exact ⟨_, rfl, iteF k0⟩
  | lst _ _ _ => exact ⟨_, rfl, iteF k0⟩
  | dct _ _ => exact ⟨_, rfl, iteF k0⟩
theorem ok_is_fork (T : Tx K mg) : FnOk P w K mg base CX0 1 T.a_is_fork T.fd_is_fork ["value"] (spAsk forkD) := by
  refine T.F_is_fork.ok sc_is_fork (fun vs H Q E h => ?_) (fun cdv A outer st H vs Q E hr h => ?_)
  · obtain ⟨v, d, rfl, _⟩ := h
    rfl
  obtain ⟨v, d, rfl, dq, k⟩ := h
  refine ⟨_, ((pss_one (ps_ret (pe_and (pe_callB (show CallR _ (.builtin "isinstance") (rIsi K) from call_isi) (by rfl) T.n_isinstance (by decide +kernel) (pa_cons (pv 0) (pa_cons (pe_bltn (v := .ty "tuple") (by rfl) T.n_tuple (by decide +kernel) rfl) pa_nil))) (pe_one (pe_cmpR op_eq (pe_callB call_len_seq (by rfl) T.n_len (by decide +kernel) (pa_cons (pv 0) pa_nil)) pe_int (nomark _))))))), ?_⟩
  refine ⟨_, rfl, v, .ty "tuple", .type (tyD d), .type "tuple", _, rfl, .ty _, dq.ty, is_tup d, ?_⟩
  have k0 := k H (Same.refl H)
  cases dq with
  | tup e hs =>
    refine ⟨_, rfl, iteT ⟨_, rfl, _, _, rfl, .inr (SqT.of e), rfl, ?_⟩⟩
    rw [hs.length, dec3]
    exact k0
  | non => exact ⟨_, rfl, iteF k0⟩
  | bl _ => exact ⟨_, rfl, iteF k0⟩
  | int _ => exact ⟨_, rfl, iteF k0⟩
  | str _ => exact ⟨_, rfl, iteF k0⟩
  | lst _ _ _ => exact ⟨_, rfl, iteF k0⟩
  | dct _ _ => exact ⟨_, rfl, iteF k0⟩
def spWord : Sp := fun vs H Q _ => ∃ (v : V) (d : PyData), vs = [v] ∧ Dq H v d ∧ (∀ x, d = .str x → x.length ≤ 100000) ∧ ∀ H', Same H H' → Q (.bl (wordD d)) H'
theorem ok_is_word (T : Tx K mg) : FnOk P w K mg base CX0 1 T.a_is_word T.fd_is_word ["value"] spWord := by
  refine T.F_is_word.ok sc_is_word (fun vs H Q E h => ?_) (fun cdv A outer st H vs Q E hr h => ?_)
  · obtain ⟨v, d, rfl, _⟩ := h
    rfl
  obtain ⟨v, d, rfl, dq, hz, k⟩ := h
  refine ⟨_, ((pss_cons (ps_if (PW.pt (pw_or (pt_not (pt_val (pe_callB (show CallR _ (.builtin "isinstance") (rIsi K) from call_isi) (by rfl) T.n_isinstance (by decide +kernel) (pa_cons (pv 0) (pa_cons (pe_bltn (v := .ty "str") (by rfl) T.n_str (by decide +kernel) rfl) pa_nil))))) (pw_or1 (pt_not (pt_chain op_le op_le pe_int (pe_callB call_len_str (by rfl) T.n_len (by decide +kernel) (pa_cons (pv 0) pa_nil)) (pe_gint rfl T.c_LONGEST_WORD))))))
        (pss_one (ps_ret pe_bl))
        pss_nil)
      (pss_one (ps_ret (pe_and (pe_cmpR op_in_sign (pe_ix ix_str (pv 0) pe_int (fun _ _ => rfl)) (pe_gstr rfl T.c_LETTERS) (by rfl)) (pe_one (pe_callB (cr_all rfl) (by rfl) T.n_all (by decide +kernel) (pa_cons (pe_lc (own := [("sign", 1)]) (by rfl) sc_is_word.nd (pi_str (pv 0)) (blkOk_by (own := [("sign", 1)]) (N := ["value", "sign"]) (sc := defScope s_is_word) (by decide +kernel)) (fun _ _ _ _ _ => pg_name (i := 1) sc_is_word.nd rfl (Or.inl rfl)) (fun _ _ _ _ _ => pts_nil) (fun _ _ _ _ _ => (pe_or (pe_cmpR op_in_sign (pv 1) (pe_gstr rfl T.c_LETTERS) (by rfl)) (pe_one (pe_cmpR op_in_sign (pv 1) (pe_gstr rfl T.c_DIGITS) (by rfl)))))) pa_nil)))))))), ?_⟩
  refine ⟨_, rfl, v, .ty "str", .type (tyD d), .type "str", _, rfl, .ty _, dq.ty, is_str d, ?_⟩
  have k0 := k H (Same.refl H)
  cases dq with
  | str x =>
    have lx := hz x rfl
    refine ⟨_, rfl, iteF ?_⟩
    refine ⟨_, rfl, x, rfl, sz6 lx, _, _, rfl, rfl, _, rfl, ?_⟩
    have wd : wordD (.str x) = (decide (x.length ≤ 12) && (match x.cps.toList with
      | [] => false
      | c :: r => inS LTR c && (c :: r).all isAl)) := rfl
    by_cases h1 : 1 ≤ x.length
    · rw [decide_eq_true (by omega : (1 : Int) ≤ (x.length : Int))]
      refine iteT ⟨_, _, rfl, rfl, _, rfl, ?_⟩
      by_cases h2 : x.length ≤ 12
      · rw [decide_eq_true (by omega : (x.length : Int) ≤ 12)]
        refine iteF ?_
        obtain ⟨c, r, ex⟩ : ∃ c r, x.cps.toList = c :: r := by
          cases e : x.cps.toList with
          | nil =>
            have := str_len x
            rw [e] at this
            have : x.length = 0 := this.symm
            omega
          | cons c r => exact ⟨c, r, rfl⟩
        have ec : atI x.cps.toList (0 : Int) = some c := by rw [ex]; exact atI_nat (j := 0) rfl
        have wd2 : wordD (.str x) = (inS LTR c && x.cps.toList.all isAl) := by
          rw [wd, decide_eq_true h2, ex]; rfl
        refine ⟨_, rfl, x, _, c, rfl, rfl, sz6 lx, ec, c, LTR, rfl, rfl, _, rfl, ?_⟩
        have q1 : decide (c ∈ LTR.cps.toList) = inS LTR c := rfl
        rw [q1]
        cases hc : inS LTR c with
        | false =>
          rw [wd2, hc] at k0
          exact iteF k0
        | true =>
          refine iteT ⟨_, rfl, x, rfl, fun D hD => ?_⟩
          refine lc_str (fun i M => Same H M ∧ M D = some (.lst (((x.cps.toList.take i).map isAl).map V.bl))) ⟨same_new hD _, upd_same⟩ ?_ ?_
          · rintro i y M hy ⟨sM, eD⟩
            have hil : i < x.cps.toList.length := (List.getElem?_eq_some_iff.mp hy).1
            have eil : x.cps.toList[i] = y := (List.getElem?_eq_some_iff.mp hy).2
            have lay : ∀ b : Bool, b = isAl y → ∃ acc, M D = some (.lst acc) ∧ acc.length < sizeLine ∧ (Same H (L2.upd M D (.lst (acc ++ [V.bl b]))) ∧ (L2.upd M D (.lst (acc ++ [V.bl b]))) D = some (.lst (((x.cps.toList.take (i + 1)).map isAl).map V.bl))) := fun b eb => by
              refine ⟨_, eD, ?_, fun a o e => ?_, ?_⟩
              · rw [List.length_map, List.length_map, List.length_take]; exact small1000 (by rw [str_len] at hil ⊢; omega)
              · rw [upd_ne (ne_of_none e hD)]
                exact sM a o e
              · rw [upd_same, List.take_succ_eq_append_getElem hil, List.map_append, List.map_append, eil, eb]
                rfl
            refine ⟨rfl, _, rfl, y, LTR, rfl, rfl, _, rfl, ?_⟩
            have q2 : decide (y ∈ LTR.cps.toList) = inS LTR y := rfl
            rw [q2]
            cases hy1 : inS LTR y with
            | true => exact iteT (lay true (by unfold isAl; rw [hy1]; rfl))
            | false => exact iteF ⟨_, rfl, y, DIG, rfl, rfl, lay _ (by unfold isAl; rw [hy1]; rfl)⟩
          · rintro M ⟨sM, eD⟩
            have ef : x.cps.toList.take x.length = x.cps.toList := by rw [← str_len, List.take_length]
            rw [ef] at eD
            refine ⟨D, _, rfl, SqL.of eD, ?_⟩
            have ea : ((x.cps.toList.map isAl).all id) = x.cps.toList.all isAl := by rw [List.all_map]; rfl
            rw [ea]
            have kk := k M sM
            rw [wd2, hc, Bool.true_and] at kk
            exact kk
      · rw [decide_eq_false (by omega : ¬ (x.length : Int) ≤ 12)]
        rw [wd, decide_eq_false h2, Bool.false_and] at k0
        exact iteT k0
    · rw [decide_eq_false (by omega : ¬ (1 : Int) ≤ (x.length : Int))]
      have e0 : x.cps.toList = [] := List.length_eq_zero_iff.mp (by rw [str_len]; omega)
      rw [wd, e0, Bool.and_false] at k0
      exact iteF ⟨_, rfl, k0⟩
  | non => exact ⟨_, rfl, iteT k0⟩
  | bl _ => exact ⟨_, rfl, iteT k0⟩
  | int _ => exact ⟨_, rfl, iteT k0⟩
  | lst _ _ _ => exact ⟨_, rfl, iteT k0⟩
  | tup _ _ => exact ⟨_, rfl, iteT k0⟩
  | dct _ _ => exact ⟨_, rfl, iteT k0⟩
end
end My
namespace My
open PySem PySem.Spec PyProof.Rows L2
/-! ### the first wrong side, by levels -/
def fitF : Nat → PyData → Prop
  | 0, _ => False
  | n + 1, d => (∀ x, d = .str x → x.length ≤ 100000 ∧ PyData.strOk x = true) ∧ (forkD d = true → fitF n (nthD d 0) ∧ fitF n (nthD d 1) ∧ ∀ x, nthD d 2 = .str x → x.length ≤ 100000 ∧ PyData.strOk x = true)
def spW (n : Nat) : Sp := fun vs H Q _ => ∃ (v : V) (d : PyData), vs = [v] ∧ Dq H v d ∧ fitF n d ∧ n ≤ 1000 ∧ (wrongF n d = none → ∀ H', Same H H' → Q .non H') ∧
  (∀ p, wrongF n d = some p → ∀ a H', Same H H' → H' a = some (.tup (p.map V.int)) → Q (.ref a) H')
theorem wrongF_len : ∀ (n : Nat) (d : PyData) (p : List Int), wrongF n d = some p → p.length ≤ n
  | 0, _, p, h => by cases h; exact Nat.zero_le _
  | n + 1, d, p, h => by
    unfold wrongF at h
    by_cases h1 : wordD d = true
    · rw [if_pos h1] at h; cases h
    rw [if_neg h1] at h
    by_cases h2 : forkD d = false
    · rw [if_pos h2] at h; cases h; exact Nat.zero_le _
    rw [if_neg h2] at h
    cases e0 : wrongF n (nthD d 0) with
    | some q =>
      rw [e0] at h
      have h' : some (0 :: q) = some p := h
      cases h'
      exact Nat.succ_le_succ (wrongF_len n _ q e0)
    | none =>
      rw [e0] at h
      cases e1 : wrongF n (nthD d 1) with
      | some q =>
        rw [e1] at h
        have h' : some (1 :: q) = some p := h
        cases h'
        exact Nat.succ_le_succ (wrongF_len n _ q e1)
      | none =>
        rw [e1] at h
        have h' : (if noneD (nthD d 2) = true ∨ wordD (nthD d 2) = true then none else some [2]) = some p := h
        by_cases h3 : noneD (nthD d 2) = true ∨ wordD (nthD d 2) = true
        · rw [if_pos h3] at h'; cases h'
        · rw [if_neg h3] at h'; cases h'
          exact Nat.succ_le_succ (Nat.zero_le _)
theorem not_word {d : PyData} (h : forkD d = true) : wordD d = false := by
  cases d <;> first | rfl | cases h
theorem wrongF_word {n : Nat} {d : PyData} (h : wordD d = true) : wrongF (n + 1) d = none := by
  unfold wrongF; rw [if_pos h]
theorem wrongF_other {n : Nat} {d : PyData} (h : wordD d = false) (f : forkD d = false) : wrongF (n + 1) d = some [] := by
  unfold wrongF; rw [if_neg (by rw [h]; exact Bool.false_ne_true), if_pos f]
theorem wrongF_fork {n : Nat} {d : PyData} (f : forkD d = true) : wrongF (n + 1) d = match wrongF n (nthD d 0) with
    | some p => some (0 :: p)
    | none => match wrongF n (nthD d 1) with
      | some p => some (1 :: p)
      | none => if noneD (nthD d 2) = true ∨ wordD (nthD d 2) = true then none else some [2] := by
  show (if wordD d = true then none else if forkD d = false then some [] else _) = _
  rw [if_neg (by rw [not_word f]; exact Bool.false_ne_true), if_neg (by rw [f]; exact fun z => Bool.noConfusion z)] <;> rfl
theorem dec_non {H : Hp} {v : V} {d : PyData} (h : Dq H v d) : decide (v = V.non) = noneD d := by
  cases h <;> rfl
section
variable {P : Program} {w : World} {K : PySem.W.Frag} {mg : Str → Option Value} {base : Heap}
theorem ok_wrong_side (T : Tx K mg) : ∀ n, FnOk P w K mg base CX0 (n + 2) T.a_wrong_side T.fd_wrong_side ["value"] (spW n)
  | 0 => by
    refine T.F_wrong_side.ok sc_wrong_side (fun vs H Q E h => ?_) (fun cdv A outer st H vs Q E hr h => ?_)
    · obtain ⟨v, d, rfl, _⟩ := h
      rfl
    · obtain ⟨v, d, _, _, f, _⟩ := h
      exact f.elim
  | n + 1 => by
    refine T.F_wrong_side.ok sc_wrong_side (fun vs H Q E h => ?_) (fun cdv A outer st H vs Q E hr h => ?_)
    · obtain ⟨v, d, rfl, _⟩ := h
      rfl
    obtain ⟨v, d, rfl, dq, ⟨ft, fc⟩, hn, kN, kS⟩ := h
    have G_wrong_side : FnOk P w K mg base CX0 (n + 2) T.a_wrong_side T.fd_wrong_side ["value"] (spW n) := ok_wrong_side T n
    have hr_wrong_side : Room (n + 2) _ := hr
    have G_is_word : FnOk P w K mg base CX0 1 T.a_is_word T.fd_is_word ["value"] spWord := ok_is_word T
    have hr_is_word : Room 1 _ := hr.mono (by omega)
    have G_is_fork : FnOk P w K mg base CX0 1 T.a_is_fork T.fd_is_fork ["value"] (spAsk forkD) := ok_is_fork T
    have hr_is_fork : Room 1 _ := hr.mono (by omega)
    refine ⟨_, ((pss_cons (ps_if (pt_val (pe_call G_is_word hr_is_word rfl T.m_is_word T.F_is_word.kp T.b_is_word .nil pass0 (pa_cons (pv 0) pa_nil)))
        (pss_one (ps_ret pe_non))
        pss_nil)
      (pss_cons (ps_if (pt_not (pt_val (pe_call G_is_fork hr_is_fork rfl T.m_is_fork T.F_is_fork.kp T.b_is_fork .nil pass0 (pa_cons (pv 0) pa_nil))))
        (pss_one (ps_ret (pe_tup pa_nil)))
        pss_nil)
      (pss_cons (ps_for PassesOwn.never rfl (pi_range1 rfl T.n_range (pa_cons pe_int pa_nil)) (pg_name (i := 1) sc_wrong_side.nd rfl (Or.inl rfl))
        (pss_cons (ps_set (i := 2) sc_wrong_side.nd rfl (Or.inl rfl) (pe_call G_wrong_side hr_wrong_side rfl T.m_wrong_side T.F_wrong_side.kp T.b_wrong_side .nil pass0 (pa_cons (pe_ix ix_tup (pv 0) (pv 1) (fun _ _ => rfl)) pa_nil)))
      (pss_one (ps_if (pt_cmpR op_notN (pv 2) pe_non (nomark _))
        (pss_one (ps_ret (pe_op op_catT (pe_tup (pa_cons (pv 1) pa_nil)) (pv 2))))
        pss_nil))))
      (pss_one (ps_ret (pe_ifExp (PW.pt (pw_or (pt_cmpR op_isN (pe_ix ix_tup (pv 0) pe_int (fun _ _ => rfl)) pe_non (nomark _)) (pw_or1 (pt_val (pe_call G_is_word hr_is_word rfl T.m_is_word T.F_is_word.kp T.b_is_word .nil pass0 (pa_cons (pe_ix ix_tup (pv 0) pe_int (fun _ _ => rfl)) pa_nil)))))) pe_non (pe_tup (pa_cons pe_int pa_nil))))))))), ?_⟩
    refine ⟨_, rfl, v, d, rfl, dq, (fun x e => (ft x e).1), fun H1 s1 => ⟨_, rfl, ?_⟩⟩
    cases hw : wordD d with
    | true => exact iteT (kN (wrongF_word hw) H1 s1)
    | false =>
      refine iteF ⟨_, rfl, v, d, rfl, dq.same s1, fun H2 s2 => ⟨_, rfl, ?_⟩⟩
      have s12 := s1.trans s2
      cases hf : forkD d with
      | false =>
        show if true = true then _ else _
        refine iteT ⟨Nat.zero_le _, fun a ha => kS [] (wrongF_other hw hf) a _ (s12.trans (same_new ha _)) upd_same⟩
      | true =>
        show if false = true then _ else _
        refine iteF ?_
        obtain ⟨a, x, y, z, rfl, ea, dx, dy, dz⟩ := (dq.same s12).fork hf
        have ⟨f0, f1, f2⟩ := fc hf
        have wf := wrongF_fork (n := n) hf
        refine ⟨_, rfl, by decide, by decide, for_range (lo := 0) (n := 2) (fun i σ M => ∃ v1 v2 : Option V, σ = [some (.ref a), v1, v2] ∧ Same H2 M ∧ (1 ≤ i → wrongF n (nthD d 0) = none) ∧ (2 ≤ i → wrongF n (nthD d 1) = none)) ⟨none, none, rfl, Same.refl _, fun h => absurd h (by decide), fun h => absurd h (by decide)⟩ ?_ ?_⟩
        · rintro i σ M hi ⟨v1, v2, rfl, sM, c0, c1⟩
          have sM2 := s12.trans sM
          have eaM := sM _ _ ea
          -- the side at hand
          have side : ∀ (u : V) (e : PyData) (j : Int), Dq M u e → fitF n e → (wrongF n e = none → ∃ v1 v2 : Option V, True) → (∀ p, wrongF n e = some p → wrongF (n + 1) d = some (j :: p)) →
              ∀ (M1 : Hp), Same M M1 → ∀ p, wrongF n e = some p → ∀ (b : Addr), M1 b = some (.tup (p.map V.int)) → ∀ t, M1 t = none →
                ∃ (a' b' : Addr) (xs ys : List V), V.ref t = .ref a' ∧ V.ref b = .ref b' ∧ SqT K (L2.upd M1 t (.tup [.int j])) a' xs ∧ SqT K (L2.upd M1 t (.tup [.int j])) b' ys ∧ xs ≠ [] ∧ xs.length + ys.length ≤ sizeLine ∧
                  (ys = [] → Q (.ref a') (L2.upd M1 t (.tup [.int j]))) ∧ (ys ≠ [] → ∀ q, (L2.upd M1 t (.tup [.int j])) q = none → Q (.ref q) (L2.upd (L2.upd M1 t (.tup [.int j])) q (.tup (xs ++ ys)))) := fun u e j du fe _ hp M1 sM1 p ep b eb t ht => by
            have st := same_new ht (.tup [.int j])
            have lp := wrongF_len n e p ep
            refine ⟨t, b, _, _, rfl, rfl, SqT.of upd_same, SqT.of (st _ _ eb), List.cons_ne_nil _ _, ?_, fun en => ?_, fun _ q hq => ?_⟩
            · rw [List.length_map]; exact sz6 (by show 1 + p.length ≤ _; omega)
            · have p0 : p = [] := List.map_eq_nil_iff.mp en
              refine kS (j :: p) (hp p ep) t _ ((sM2.trans sM1).trans st) ?_
              rw [p0]; exact upd_same
            · exact kS (j :: p) (hp p ep) q _ (((sM2.trans sM1).trans st).trans (same_new hq _)) upd_same
          have i01 : i = 0 ∨ i = 1 := by omega
          rcases i01 with rfl | rfl
          · have at0 : atI [x, y, z] (0 + ((0 : Nat) : Int)) = some x := atI_nat (j := 0) rfl
            refine ⟨_, rfl, _, rfl, a, _, _, x, rfl, rfl, SqT.of eaM, at0, x, _, rfl, dx.same sM, f0, by omega, fun en M1 s1' => ?_, fun p ep b M1 s1' eb => ?_⟩
            · exact ⟨_, rfl, rfl, _, rfl, _, _, rfl, sM.trans s1', (fun _ => en), fun h => absurd h (by decide)⟩
            · refine ⟨_, rfl, rfl, _, rfl, ?_⟩
              exact ⟨_, rfl, (by show 1 ≤ sizeLine; decide), fun t ht => ⟨_, rfl, side x _ 0 (dx.same sM) f0 (fun _ => ⟨none, none, trivial⟩) (fun p ep => by rw [wf, ep]) M1 s1' p ep b eb t ht⟩⟩
          · have e0 := c0 (Nat.le_refl _)
            have at1 : atI [x, y, z] (0 + ((1 : Nat) : Int)) = some y := atI_nat (j := 1) rfl
            refine ⟨_, rfl, _, rfl, a, _, _, y, rfl, rfl, SqT.of eaM, at1, y, _, rfl, dy.same sM, f1, by omega, fun en M1 s1' => ?_, fun p ep b M1 s1' eb => ?_⟩
            · exact ⟨_, rfl, rfl, _, rfl, _, _, rfl, sM.trans s1', (fun _ => e0), fun _ => en⟩
            · refine ⟨_, rfl, rfl, _, rfl, ?_⟩
              exact ⟨_, rfl, (by show 1 ≤ sizeLine; decide), fun t ht => ⟨_, rfl, side y _ 1 (dy.same sM) f1 (fun _ => ⟨none, none, trivial⟩) (fun p ep => by rw [wf, e0, ep]) M1 s1' p ep b eb t ht⟩⟩
        · rintro σ M ⟨v1, v2, rfl, sM, c0, c1⟩
          have e0 := c0 (by decide)
          have e1 := c1 (by decide)
          rw [e0, e1] at wf
          have wf : wrongF (n + 1) d = if noneD (nthD d 2) = true ∨ wordD (nthD d 2) = true then none else some [2] := wf
          have eaM := sM _ _ ea
          have at2 : atI [x, y, z] (2 : Int) = some z := atI_nat (j := 2) rfl
          refine ⟨_, rfl, a, _, _, _, rfl, rfl, SqT.of eaM, at2, rfl, _, rfl, ?_⟩
          rw [dec_non dz]
          cases hz : noneD (nthD d 2) with
          | true =>
            rw [if_pos (.inl hz)] at wf
            exact iteT (kN wf M (s12.trans sM))
          | false =>
            refine iteF ⟨_, rfl, a, _, _, _, rfl, rfl, SqT.of eaM, at2, z, _, rfl, dz.same sM, (fun x e => (f2 x e).1), fun M2 sM2 => ⟨_, rfl, ?_⟩⟩
            cases hzw : wordD (nthD d 2) with
            | true =>
              rw [if_pos (.inr hzw)] at wf
              exact iteT (kN wf M2 ((s12.trans sM).trans sM2))
            | false =>
              rw [if_neg (by rw [hz, hzw]; simp)] at wf
              exact iteF ⟨(by show 1 ≤ sizeLine; decide), fun p hp => kS [2] wf p _ (((s12.trans sM).trans sM2).trans (same_new hp _)) upd_same⟩
end
end My
namespace My
open PySem PySem.Spec PyProof.Rows L2
/-! ### the check, the leaves, the forks -/
def spInitT (K : PySem.W.Frag) (C : Addr) : Sp := fun vs H Q _ => ∃ (a b : Addr) (xs : List V), vs = [.ref a, .ref b] ∧ H a = some (exo a C none) ∧ SqT K H b xs ∧
  ∀ dx, H dx = none → dx ≠ a → Q .non (upd (upd H dx (exd dx [("path", .ref b)])) a (exo a C (some dx)))
def checkF (n : Nat) (d : PyData) : Option (List Int) := if emptyD d = true then none else wrongF n d
def spCheck (n : Nat) (C : Addr) : Sp := fun vs H Q E => ∃ (v : V) (d : PyData), vs = [v] ∧ Dq H v d ∧ fitF n d ∧ n ≤ 1000 ∧ (checkF n d = none → ∀ H', Same H H' → Q .non H') ∧
  (∀ p, checkF n d = some p → ∀ (b dx : Addr) (H' : Hp), Same H H' → H' b = some (.tup (p.map V.int)) → H' dx = some (.xd [("path", .ref b)]) → E (.ref C) (some dx) H')
def spList (f : PyData → List PyData) (n : Nat) : Sp := fun vs H Q _ => ∃ (v : V) (d : PyData), vs = [v] ∧ Dq H v d ∧ fitF n d ∧ n ≤ 30 ∧ ∀ (a : Addr) (xs : List V) (H' : Hp), Same H H' → H a = none → H' a = some (.lst xs) → DqAll H' xs (f d) → Q (.ref a) H'
section
variable {P : Program} {w : World} {K : PySem.W.Frag} {mg : Str → Option Value} {base : Heap}
theorem ok_badTree (T : Tx K mg) : FnOk P w K mg base CX0 1 T.e_BadTree.fI T.e_BadTree.fd ["self", "path"] (spInitT K T.e_BadTree.C) := by
  refine T.e_BadTree.F.ok sc_BadTree (fun vs H Q E h => ?_) (fun cdv A outer st H vs Q E hr h => ?_)
  · obtain ⟨a, b, xs, rfl, _⟩ := h
    rfl
  obtain ⟨a, b, xs, rfl, ha, hb, k⟩ := h
  refine ⟨_, pss_one (ps_ost (pv 0) (pe_callTy call_tuple_of (by rfl) T.n_tuple (by decide +kernel) (pa_cons (pv 1) pa_nil))), ?_⟩
  exact ⟨_, rfl, b, xs, rfl, .inr ⟨hb, _, rfl, a, _, rfl, T.e_BadTree.oex, T.e_BadTree.noF, .inl ⟨ha, fun dx h1 h2 => k dx h1 h2⟩⟩⟩
theorem ok_check_tree (T : Tx K mg) (n : Nat) : FnOk P w K mg base (L2.CX P w) (n + 3) T.a_check_tree T.fd_check_tree ["tree"] (spCheck n T.e_BadTree.C) := by
  refine T.F_check_tree.okX sc_check_tree (fun vs H Q E h => ?_) (fun cdv A outer st H vs Q E hr h => ?_)
  · obtain ⟨v, d, rfl, _⟩ := h
    rfl
  obtain ⟨v, d, rfl, dq, ft, hn, kN, kE⟩ := h
  have G_wrong_side : FnOk P w K mg base CX0 (n + 2) T.a_wrong_side T.fd_wrong_side ["value"] (spW n) := ok_wrong_side T n
  have hr_wrong_side : Room (n + 2) _ := hr
  have G_is_empty : FnOk P w K mg base CX0 1 T.a_is_empty T.fd_is_empty ["value"] (spAsk emptyD) := ok_is_empty T
  have hr_is_empty : Room 1 _ := hr.mono (by omega)
  have hr2 : Room 2 _ := hr.mono (by omega)
  refine ⟨_, ((pss_cons (ps_set (i := 1) sc_check_tree.nd rfl (Or.inl rfl) (pe_ifExp (pt_val (pe_call G_is_empty hr_is_empty rfl T.m_is_empty T.F_is_empty.kp T.b_is_empty .nil pass0 (pa_cons (pv 0) pa_nil))) pe_non (pe_call G_wrong_side hr_wrong_side rfl T.m_wrong_side T.F_wrong_side.kp T.b_wrong_side .nil pass0 (pa_cons (pv 0) pa_nil))))
      (pss_one (ps_if (pt_cmpR op_notN (pv 1) pe_non (nomark _))
        (pss_one (ps_raise rfl (takes_of rfl rfl rfl rfl) (pmk_oex T.e_BadTree.oex T.e_BadTree.iC T.e_BadTree.tI (ok_badTree T) hr2 T.e_BadTree.b .nil pass0 rfl T.e_BadTree.m (pa_cons (pv 1) pa_nil))))
        pss_nil)))), ?_⟩
  refine ⟨_, rfl, v, d, rfl, dq, fun H1 s1 => ⟨_, rfl, ?_⟩⟩
  cases he : emptyD d with
  | true =>
    have c0 : checkF n d = none := if_pos he
    exact iteT ⟨_, rfl, rfl, _, rfl, kN c0 H1 s1⟩
  | false =>
    have c0 : checkF n d = wrongF n d := if_neg (by rw [he]; exact Bool.false_ne_true)
    refine iteF ⟨_, rfl, v, d, rfl, dq.same s1, ft, hn, fun en H2 s2 => ?_, fun p ep b H2 s2 eb => ?_⟩
    · exact ⟨_, rfl, rfl, _, rfl, kN (c0.trans en) H2 (s1.trans s2)⟩
    · refine ⟨_, rfl, rfl, _, rfl, ?_⟩
      refine ⟨_, rfl, (by show 1 ≤ 1000; decide), fun x hx => ?_⟩
      have nb : b ≠ x := ne_of_none eb hx
      refine ⟨x, b, _, rfl, upd_same, SqT.of (by rw [upd_ne nb]; exact eb), fun dx h1 h2 => ⟨rfl, dx, [("path", .ref b)], upd_same, ?_, ?_, ?_⟩⟩
      · rw [upd_ne h2]; exact upd_same
      · rw [upd_ne h2] at h1; exact h1
      · rw [upd_ne h2] at h1
        have old : ∀ y u, H2 y = some u → L2.upd (del (L2.upd (L2.upd (L2.upd H2 x (exo x T.e_BadTree.C none)) dx (exd dx [("path", .ref b)])) x (exo x T.e_BadTree.C (some dx))) x) dx (.xd [("path", .ref b)]) y = some u := fun y u hy => by
          have n1 : y ≠ x := ne_of_none hy hx
          have n2 : y ≠ dx := ne_of_none hy h1
          rw [upd_ne n2, del_ne n1, upd_ne n1, upd_ne n2, upd_ne n1]
          exact hy
        exact kE p (c0.trans ep) b dx _ (fun y u hy => old y u (s2 _ _ (s1 _ _ hy))) (old _ _ eb) upd_same
end
end My
namespace My
open PySem PySem.Spec PyProof.Rows L2
theorem DqAll.append {H : Hp} : ∀ {xs ys : List V} {ds es : List PyData}, DqAll H xs ds → DqAll H ys es → DqAll H (xs ++ ys) (ds ++ es)
  | _, _, _, _, .nil, h => h
  | _, _, _, _, .cons e h, h' => .cons e (h.append h')
theorem leavesF_len : ∀ (n : Nat) (d : PyData), (leavesF n d).length ≤ 2 ^ n
  | 0, _ => Nat.zero_le _
  | n + 1, d => by
    unfold leavesF
    have p : 1 ≤ 2 ^ n := Nat.one_le_two_pow
    have e : 2 ^ (n + 1) = 2 ^ n + 2 ^ n := by rw [Nat.pow_succ]; omega
    by_cases h : forkD d = true
    · rw [if_pos h, List.length_append, e]
      exact Nat.add_le_add (leavesF_len n _) (leavesF_len n _)
    · rw [if_neg h]
      by_cases h2 : emptyD d = true
      · rw [if_pos h2]; exact Nat.zero_le _
      · rw [if_neg h2, e]; show 1 ≤ _; omega
theorem forksF_len : ∀ (n : Nat) (d : PyData), (forksF n d).length ≤ 2 ^ n - 1
  | 0, _ => Nat.zero_le _
  | n + 1, d => by
    unfold forksF
    have p : 1 ≤ 2 ^ n := Nat.one_le_two_pow
    have e : 2 ^ (n + 1) = 2 ^ n + 2 ^ n := by rw [Nat.pow_succ]; omega
    by_cases h : forkD d = false
    · rw [if_pos h]; exact Nat.zero_le _
    · rw [if_neg h, List.length_append, List.length_append, e]
      have a := forksF_len n (nthD d 0)
      have b := forksF_len n (nthD d 1)
      show 1 + _ + _ ≤ _
      omega
theorem small20 {n : Nat} (h : n ≤ 20) : 2 ^ n ≤ 1048576 := Nat.le_trans (Nat.pow_le_pow_right (by decide) h) (by decide)
def spList20 (f : Nat → PyData → List PyData) (n : Nat) : Sp := fun vs H Q _ => ∃ (v : V) (d : PyData), vs = [v] ∧ Dq H v d ∧ fitF n d ∧ n ≤ 20 ∧
  ∀ (a : Addr) (xs : List V) (H' : Hp), Same H H' → H a = none → H' a = some (.lst xs) → DqAll H' xs (f n d) → Q (.ref a) H'
section
variable {P : Program} {w : World} {K : PySem.W.Frag} {mg : Str → Option Value} {base : Heap}
theorem ok_leaves_within (T : Tx K mg) : ∀ n, FnOk P w K mg base CX0 (n + 2) T.a_leaves_within T.fd_leaves_within ["tree"] (spList20 leavesF n)
  | 0 => by
    refine T.F_leaves_within.ok sc_leaves_within (fun vs H Q E h => ?_) (fun cdv A outer st H vs Q E hr h => ?_)
    · obtain ⟨v, d, rfl, _⟩ := h
      rfl
    · obtain ⟨v, d, _, _, f, _⟩ := h
      exact f.elim
  | n + 1 => by
    refine T.F_leaves_within.ok sc_leaves_within (fun vs H Q E h => ?_) (fun cdv A outer st H vs Q E hr h => ?_)
    · obtain ⟨v, d, rfl, _⟩ := h
      rfl
    obtain ⟨v, d, rfl, dq, ⟨ft, fc⟩, hn, k⟩ := h
    have G_leaves_within : FnOk P w K mg base CX0 (n + 2) T.a_leaves_within T.fd_leaves_within ["tree"] (spList20 leavesF n) := ok_leaves_within T n
    have hr_leaves_within : Room (n + 2) _ := hr
    have G_is_empty : FnOk P w K mg base CX0 1 T.a_is_empty T.fd_is_empty ["value"] (spAsk emptyD) := ok_is_empty T
    have hr_is_empty : Room 1 _ := hr.mono (by omega)
    have G_is_fork : FnOk P w K mg base CX0 1 T.a_is_fork T.fd_is_fork ["value"] (spAsk forkD) := ok_is_fork T
    have hr_is_fork : Room 1 _ := hr.mono (by omega)
    refine ⟨_, ((pss_cons (ps_if (pt_val (pe_call G_is_fork hr_is_fork rfl T.m_is_fork T.F_is_fork.kp T.b_is_fork .nil pass0 (pa_cons (pv 0) pa_nil)))
        (pss_one (ps_ret (pe_op op_cat (pe_call G_leaves_within hr_leaves_within rfl T.m_leaves_within T.F_leaves_within.kp T.b_leaves_within .nil pass0 (pa_cons (pe_ix ix_tup (pv 0) pe_int (fun _ _ => rfl)) pa_nil)) (pe_call G_leaves_within hr_leaves_within rfl T.m_leaves_within T.F_leaves_within.kp T.b_leaves_within .nil pass0 (pa_cons (pe_ix ix_tup (pv 0) pe_int (fun _ _ => rfl)) pa_nil)))))
        pss_nil)
      (pss_one (ps_ret (pe_ifExp (pt_val (pe_call G_is_empty hr_is_empty rfl T.m_is_empty T.F_is_empty.kp T.b_is_empty .nil pass0 (pa_cons (pv 0) pa_nil))) (pe_lst pa_nil) (pe_lst (pa_cons (pv 0) pa_nil))))))), ?_⟩
    refine ⟨_, rfl, v, d, rfl, dq, fun H1 s1 => ⟨_, rfl, ?_⟩⟩
    cases hf : forkD d with
    | true =>
      have lf : leavesF (n + 1) d = leavesF n (nthD d 0) ++ leavesF n (nthD d 1) := if_pos hf
      obtain ⟨a, x, y, z, rfl, ea, dx, dy, dz⟩ := (dq.same s1).fork hf
      have ⟨f0, f1, f2⟩ := fc hf
      refine iteT ⟨_, rfl, a, _, _, _, rfl, rfl, SqT.of ea, atI_nat (j := 0) rfl, x, _, rfl, dx, f0, by omega, fun b xs H2 s2 hb eb dxs => ?_⟩
      refine ⟨_, rfl, a, _, _, _, rfl, rfl, SqT.of (s2 _ _ ea), atI_nat (j := 1) rfl, y, _, rfl, dy.same s2, f1, by omega, fun b2 ys H3 s3 hb2 eb2 dys => ?_⟩
      refine ⟨b, b2, xs, ys, rfl, rfl, s3 _ _ eb, eb2, ?_, fun p hp => ?_⟩
      · rw [dxs.length, dys.length]
        have a1 := leavesF_len n (nthD d 0)
        have a2 := leavesF_len n (nthD d 1)
        have a3 := small20 (by omega : n ≤ 20)
        rw [sizeLine_eq]; omega
      · have sp := same_new hp (.lst (xs ++ ys))
        refine k p _ _ (((s1.trans s2).trans s3).trans sp) (((s1.trans s2).trans s3).free hp) upd_same ?_
        rw [lf]
        exact (dxs.same (s3.trans sp)).append (dys.same sp)
    | false =>
      have lf : leavesF (n + 1) d = if emptyD d = true then [] else [d] := if_neg (by rw [hf]; exact Bool.false_ne_true)
      refine iteF ⟨_, rfl, v, d, rfl, dq.same s1, fun H2 s2 => ⟨_, rfl, ?_⟩⟩
      have s12 := s1.trans s2
      cases he : emptyD d with
      | true =>
        rw [he, if_pos rfl] at lf
        exact iteT ⟨Nat.zero_le _, fun p hp => k p [] _ (s12.trans (same_new hp _)) (s12.free hp) upd_same (by rw [lf]; exact .nil)⟩
      | false =>
        rw [he, if_neg Bool.false_ne_true] at lf
        refine iteF ⟨_, rfl, (by show 1 ≤ sizeLine; decide), fun p hp => k p [v] _ (s12.trans (same_new hp _)) (s12.free hp) upd_same ?_⟩
        rw [lf]
        exact .cons (dq.same (s12.trans (same_new hp _))) .nil
theorem ok_forks_within (T : Tx K mg) : ∀ n, FnOk P w K mg base CX0 (n + 3) T.a_forks_within T.fd_forks_within ["tree"] (spList20 forksF n)
  | 0 => by
    refine T.F_forks_within.ok sc_forks_within (fun vs H Q E h => ?_) (fun cdv A outer st H vs Q E hr h => ?_)
    · obtain ⟨v, d, rfl, _⟩ := h
      rfl
    · obtain ⟨v, d, _, _, f, _⟩ := h
      exact f.elim
  | n + 1 => by
    refine T.F_forks_within.ok sc_forks_within (fun vs H Q E h => ?_) (fun cdv A outer st H vs Q E hr h => ?_)
    · obtain ⟨v, d, rfl, _⟩ := h
      rfl
    obtain ⟨v, d, rfl, dq, ⟨ft, fc⟩, hn, k⟩ := h
    have G_forks_within : FnOk P w K mg base CX0 (n + 3) T.a_forks_within T.fd_forks_within ["tree"] (spList20 forksF n) := ok_forks_within T n
    have hr_forks_within : Room (n + 3) _ := hr
    have G_leaves_within : FnOk P w K mg base CX0 (n + 2) T.a_leaves_within T.fd_leaves_within ["tree"] (spList20 leavesF n) := ok_leaves_within T n
    have hr_leaves_within : Room (n + 2) _ := hr.mono (by omega)
    have G_is_fork : FnOk P w K mg base CX0 1 T.a_is_fork T.fd_is_fork ["value"] (spAsk forkD) := ok_is_fork T
    have hr_is_fork : Room 1 _ := hr.mono (by omega)
    refine ⟨_, ((pss_cons (ps_if (pt_not (pt_val (pe_call G_is_fork hr_is_fork rfl T.m_is_fork T.F_is_fork.kp T.b_is_fork .nil pass0 (pa_cons (pv 0) pa_nil))))
        (pss_one (ps_ret (pe_lst pa_nil)))
        pss_nil)
      (pss_cons (ps_asg (pv 0) (pg_tup rfl (pgs_cons (pg_name (i := 1) sc_forks_within.nd rfl (Or.inl rfl)) (pgs_cons (pg_name (i := 2) sc_forks_within.nd rfl (Or.inl rfl)) (pgs_cons (pg_name (i := 3) sc_forks_within.nd rfl (Or.inl rfl)) pgs_nil)))))
      (pss_cons (ps_set (i := 4) sc_forks_within.nd rfl (Or.inl rfl) (pe_tup (pa_cons (pv 3) (pa_cons (pe_callTy call_tuple_of (by rfl) T.n_tuple (by decide +kernel) (pa_cons (pe_call G_leaves_within hr_leaves_within rfl T.m_leaves_within T.F_leaves_within.kp T.b_leaves_within .nil pass0 (pa_cons (pv 1) pa_nil)) pa_nil)) (pa_cons (pe_callTy call_tuple_of (by rfl) T.n_tuple (by decide +kernel) (pa_cons (pe_call G_leaves_within hr_leaves_within rfl T.m_leaves_within T.F_leaves_within.kp T.b_leaves_within .nil pass0 (pa_cons (pv 2) pa_nil)) pa_nil)) pa_nil)))))
      (pss_one (ps_ret (pe_op op_cat (pe_op op_cat (pe_lst (pa_cons (pv 4) pa_nil)) (pe_call G_forks_within hr_forks_within rfl T.m_forks_within T.F_forks_within.kp T.b_forks_within .nil pass0 (pa_cons (pv 1) pa_nil))) (pe_call G_forks_within hr_forks_within rfl T.m_forks_within T.F_forks_within.kp T.b_forks_within .nil pass0 (pa_cons (pv 2) pa_nil))))))))), ?_⟩
    refine ⟨_, rfl, v, d, rfl, dq, fun H1 s1 => ⟨_, rfl, ?_⟩⟩
    cases hf : forkD d with
    | false =>
      have lf : forksF (n + 1) d = [] := if_pos hf
      show if true = true then _ else _
      exact iteT ⟨Nat.zero_le _, fun p hp => k p [] _ (s1.trans (same_new hp _)) (s1.free hp) upd_same (by rw [lf]; exact .nil)⟩
    | true =>
      have lf : forksF (n + 1) d = [.tuple [nthD d 2, .tuple (leavesF n (nthD d 0)), .tuple (leavesF n (nthD d 1))]] ++ forksF n (nthD d 0) ++ forksF n (nthD d 1) := if_neg (by rw [hf]; exact fun z => Bool.noConfusion z)
      show if false = true then _ else _
      refine iteF ?_
      obtain ⟨a, x, y, z, rfl, ea, dx, dy, dz⟩ := (dq.same s1).fork hf
      have ⟨f0, f1, f2⟩ := fc hf
      refine ⟨_, rfl, a, _, rfl, SqT.of ea, rfl, _, _, rfl, _, _, rfl, _, _, rfl, rfl, ?_⟩
      refine ⟨_, rfl, _, rfl, x, _, rfl, dx, f0, by omega, fun b xs H2 s2 hb eb dxs => ⟨b, xs, rfl, .inl ⟨SqL.of eb, fun t1 k1 => ?_⟩⟩⟩
      have u1 := same_new k1 (.tup xs)
      refine ⟨_, rfl, y, _, rfl, dy.same (s2.trans u1), f1, by omega, fun b2 ys H3 s3 hb2 eb2 dys => ⟨b2, ys, rfl, .inl ⟨SqL.of eb2, fun t2 k2 => ?_⟩⟩⟩
      have u2 := same_new k2 (.tup ys)
      refine ⟨(by show 3 ≤ sizeLine; decide), fun t3 k3 => ?_⟩
      have u3 := same_new k3 (.tup [z, .ref t1, .ref t2])
      have s13 := ((s2.trans u1).trans s3).trans (u2.trans u3)
      have d3 : Dq _ (.ref t3) (.tuple [nthD d 2, .tuple (leavesF n (nthD d 0)), .tuple (leavesF n (nthD d 1))]) := .tup (upd_same (o := .tup [z, .ref t1, .ref t2]))
        (.cons (dz.same s13) (.cons (.tup ((s3.trans (u2.trans u3)) _ _ upd_same) (dxs.same ((u1.trans s3).trans (u2.trans u3)))) (.cons (.tup (u3 _ _ upd_same) (dys.same (u2.trans u3))) .nil)))
      refine ⟨_, rfl, (by show 1 ≤ sizeLine; decide), fun p1 h1 => ?_⟩
      have w1 := same_new h1 (.lst [.ref t3])
      refine ⟨_, rfl, x, _, rfl, dx.same (s13.trans w1), f0, by omega, fun q1 zs H4 s4 hq1 eq1 dzs => ?_⟩
      have l0 := forksF_len n (nthD d 0)
      have l1 := forksF_len n (nthD d 1)
      have l2 := small20 (by omega : n ≤ 20)
      refine ⟨p1, q1, _, zs, rfl, rfl, s4 _ _ upd_same, eq1, ?_, fun p2 h2 => ?_⟩
      · rw [dzs.length, sizeLine_eq]; show 1 + _ ≤ _; omega
      have w2 := same_new h2 (.lst ([.ref t3] ++ zs))
      have s5 := ((s13.trans w1).trans s4).trans w2
      refine ⟨_, rfl, y, _, rfl, dy.same s5, f1, by omega, fun q2 us H5 s6 hq2 eq2 dus => ?_⟩
      refine ⟨p2, q2, _, us, rfl, rfl, s6 _ _ upd_same, eq2, ?_, fun p3 h3 => ?_⟩
      · rw [List.length_append, dzs.length, dus.length, sizeLine_eq]; show 1 + _ + _ ≤ _; omega
      have w3 := same_new h3 (.lst ([.ref t3] ++ zs ++ us))
      have sA := ((s1.trans s5).trans s6).trans w3
      refine k p3 _ _ sA (((s1.trans s5).trans s6).free h3) upd_same ?_
      rw [lf]
      exact ((DqAll.cons (d3.same (((w1.trans s4).trans w2).trans (s6.trans w3))) .nil).append (dzs.same (w2.trans (s6.trans w3)))).append (dus.same w3)
def spTop (f : Nat → PyData → List PyData) (n m : Nat) (C : Addr) : Sp := fun vs H Q E => ∃ (v : V) (d : PyData), vs = [v] ∧ Dq H v d ∧ fitF n d ∧ n ≤ 1000 ∧
  (checkF n d = none → fitF m d ∧ m ≤ 20 ∧ ∀ (a : Addr) (xs : List V) (H' : Hp), Same H H' → H a = none → H' a = some (.lst xs) → DqAll H' xs (f m d) → Q (.ref a) H') ∧
  (∀ p, checkF n d = some p → ∀ (b dx : Addr) (H' : Hp), Same H H' → H' b = some (.tup (p.map V.int)) → H' dx = some (.xd [("path", .ref b)]) → E (.ref C) (some dx) H')
theorem ok_leaves (T : Tx K mg) (n m : Nat) : FnOk P w K mg base (L2.CX P w) (n + m + 4) T.a_leaves T.fd_leaves ["tree"] (spTop leavesF n m T.e_BadTree.C) := by
  refine T.F_leaves.okX sc_leaves (fun vs H Q E h => ?_) (fun cdv A outer st H vs Q E hr h => ?_)
  · obtain ⟨v, d, rfl, _⟩ := h
    rfl
  obtain ⟨v, d, rfl, dq, ft, hn, kN, kE⟩ := h
  have G_check_tree : FnOk P w K mg base (L2.CX P w) (n + 3) T.a_check_tree T.fd_check_tree ["tree"] (spCheck n T.e_BadTree.C) := ok_check_tree T n
  have hr_check_tree : Room (n + 3) _ := hr.mono (by omega)
  have G_leaves_within : FnOk P w K mg base CX0 (m + 2) T.a_leaves_within T.fd_leaves_within ["tree"] (spList20 leavesF m) := ok_leaves_within T m
  have hr_leaves_within : Room (m + 2) _ := hr.mono (by omega)
  refine ⟨_, ((pss_cons (ps_expr (pe_callS G_check_tree hr_check_tree rfl T.m_check_tree T.F_check_tree.kp T.b_check_tree (fun σ => passAt (takes_of rfl rfl rfl rfl) σ) (pa_cons (pv 0) pa_nil)))
      (pss_one (ps_ret (pe_call G_leaves_within hr_leaves_within rfl T.m_leaves_within T.F_leaves_within.kp T.b_leaves_within .nil pass0 (pa_cons (pv 0) pa_nil)))))), ?_⟩
  refine ⟨_, rfl, v, d, rfl, dq, ft, hn, fun en H1 s1 => ?_, fun p ep b dx H1 s1 eb ex => kE p ep b dx H1 s1 eb ex⟩
  have ⟨fm, hm, kk⟩ := kN en
  exact ⟨_, rfl, v, d, rfl, dq.same s1, fm, hm, fun a xs H2 s2 ha ea dxs => kk a xs H2 (s1.trans s2) (s1.free ha) ea dxs⟩
theorem ok_forks (T : Tx K mg) (n m : Nat) : FnOk P w K mg base (L2.CX P w) (n + m + 4) T.a_forks T.fd_forks ["tree"] (spTop forksF n m T.e_BadTree.C) := by
  refine T.F_forks.okX sc_forks (fun vs H Q E h => ?_) (fun cdv A outer st H vs Q E hr h => ?_)
  · obtain ⟨v, d, rfl, _⟩ := h
    rfl
  obtain ⟨v, d, rfl, dq, ft, hn, kN, kE⟩ := h
  have G_check_tree : FnOk P w K mg base (L2.CX P w) (n + 3) T.a_check_tree T.fd_check_tree ["tree"] (spCheck n T.e_BadTree.C) := ok_check_tree T n
  have hr_check_tree : Room (n + 3) _ := hr.mono (by omega)
  have G_forks_within : FnOk P w K mg base CX0 (m + 3) T.a_forks_within T.fd_forks_within ["tree"] (spList20 forksF m) := ok_forks_within T m
  have hr_forks_within : Room (m + 3) _ := hr.mono (by omega)
  refine ⟨_, ((pss_cons (ps_expr (pe_callS G_check_tree hr_check_tree rfl T.m_check_tree T.F_check_tree.kp T.b_check_tree (fun σ => passAt (takes_of rfl rfl rfl rfl) σ) (pa_cons (pv 0) pa_nil)))
      (pss_one (ps_ret (pe_call G_forks_within hr_forks_within rfl T.m_forks_within T.F_forks_within.kp T.b_forks_within .nil pass0 (pa_cons (pv 0) pa_nil)))))), ?_⟩
  refine ⟨_, rfl, v, d, rfl, dq, ft, hn, fun en H1 s1 => ?_, fun p ep b dx H1 s1 eb ex => kE p ep b dx H1 s1 eb ex⟩
  have ⟨fm, hm, kk⟩ := kN en
  exact ⟨_, rfl, v, d, rfl, dq.same s1, fm, hm, fun a xs H2 s2 ha ea dxs => kk a xs H2 (s1.trans s2) (s1.free ha) ea dxs⟩
end
end My
namespace My
open PySem PySem.Spec PyProof.Rows L2
abbrev AL36b : Str := LTR ++ DIG
def spWordL : Sp := fun vs H Q _ => ∃ (v : V) (d : PyData), vs = [v] ∧ Dq H v d ∧ (∀ x, d = .str x → x.length ≤ 100000 ∧ PyData.strOk x = true) ∧ ∀ H', Same H H' → Q (.bl (wordD d)) H'
def badC (l : List Nat) : List Nat := l.filter fun c => !isAl c
def oneS (c : Nat) : V := .str ⟨#[c]⟩
def oneD (c : Nat) : PyData := .str ⟨#[c]⟩
theorem dp_ones {K : PySem.W.Frag} {H : Hp} : ∀ l : List Nat, DpAll K H (l.map oneS) (l.map oneD)
  | [] => .nil
  | _ :: l => .cons (.str _) (dp_ones l)
theorem ones_can : ∀ {l : List Nat}, (∀ c ∈ l, c < 0x110000) → PyData.canLayAll0 (l.map oneD) = true ∧ PyData.depthAll (l.map oneD) ≤ 0
  | [], _ => ⟨rfl, Nat.le_refl _⟩
  | c :: l, h => by
    have ⟨a, b⟩ := ones_can (l := l) fun y hy => h y (List.mem_cons_of_mem _ hy)
    have e : PyData.strOk ⟨#[c]⟩ = true := by
      show (#[c] : Array Nat).all (fun x => decide (x < 0x110000)) = true
      have hc := h c List.mem_cons_self
      simp [hc]
    refine ⟨?_, ?_⟩
    · show (PyData.strOk ⟨#[c]⟩ && PyData.canLayAll0 (l.map oneD)) = true
      rw [e, a]; rfl
    · show max 0 (PyData.depthAll (l.map oneD)) ≤ 0
      omega
theorem ones_shaped {l : List Nat} (h : ∀ c ∈ l, c < 0x110000) : SeqAt.shaped (.list (l.map oneD)) = true := by
  have ⟨a, b⟩ := ones_can h
  show (PyData.canLayAll0 (l.map oneD) && decide (PyData.depthAll (l.map oneD) + 1 ≤ 64)) = true
  rw [a, decide_eq_true (by omega : PyData.depthAll (l.map oneD) + 1 ≤ 64)]
  rfl
theorem eqv_nil (l : List Nat) : PyData.eqv (.list (l.map oneD)) (.list []) = decide (l = []) := by
  cases l with
  | nil => rfl
  | cons c l => rfl
theorem badC_nil (l : List Nat) : decide (badC l = []) = l.all isAl := by
  rw [Bool.eq_iff_iff, decide_eq_true_iff, List.all_eq_true]
  unfold badC
  rw [List.filter_eq_nil_iff]
  constructor
  · intro h c hc
    have := h c hc
    cases e : isAl c with
    | true => rfl
    | false => rw [e] at this; exact absurd rfl this
  · intro h c hc
    rw [h c hc]
    exact Bool.false_ne_true
section
variable {P : Program} {w : World} {K : PySem.W.Frag} {mg : Str → Option Value} {base : Heap}
theorem ok_law_is_word (T : Tx K mg) : FnOk P w K mg base CX0 1 T.a_law_is_word T.fd_law_is_word ["_law_value"] spWordL := by
  refine T.F_law_is_word.ok sc_law_is_word (fun vs H Q E h => ?_) (fun cdv A outer st H vs Q E hr h => ?_)
  · obtain ⟨v, d, rfl, _⟩ := h
    rfl
  obtain ⟨v, d, rfl, dq, hz, k⟩ := h
  refine ⟨_, ((pss_cons (ps_asg (pe_tup (pa_cons pe_str (pa_cons pe_str pa_nil))) (pg_tup rfl (pgs_cons (pg_name (i := 1) sc_law_is_word.nd rfl (Or.inr rfl)) (pgs_cons (pg_name (i := 2) sc_law_is_word.nd rfl (Or.inr rfl)) pgs_nil))))
      (pss_cons (ps_if (PW.pt (pw_or (pt_not (pt_val (pe_callB (show CallR _ (.builtin "isinstance") (rIsi K) from call_isi) (by rfl) T.n_isinstance (by decide +kernel) (pa_cons (pv 0) (pa_cons (pe_bltn (v := .ty "str") (by rfl) T.n_str (by decide +kernel) rfl) pa_nil))))) (pw_or (pt_cmpR op_notIn_rng (pe_callB call_len_str (by rfl) T.n_len (by decide +kernel) (pa_cons (pv 0) pa_nil)) (pe_callTy cr_range2 (by rfl) T.n_range (by decide +kernel) (pa_cons pe_int (pa_cons pe_int pa_nil))) (by rfl)) (pw_or1 (pt_cmpR op_notIn_sign (pe_ix ix_str (pv 0) pe_int (fun _ _ => rfl)) (pv 1) (by rfl))))))
        (pss_one (ps_ret pe_bl))
        pss_nil)
      (pss_one (ps_ret (pe_cmpR (op_eqD hr.units) (pe_lc (own := [("_law_sign", 3)]) (by rfl) sc_law_is_word.nd (pi_str (pv 0)) (blkOk_by (own := [("_law_sign", 3)]) (N := ["_law_value", "_law_letters", "_law_figures", "_law_sign"]) (sc := defScope s_law_is_word) (by decide +kernel)) (fun _ _ _ _ _ => pg_name (i := 3) sc_law_is_word.nd rfl (Or.inl rfl)) (fun _ _ _ _ _ => (pts_one (pt_cmpR op_notIn_sign (pv 3) (pe_op op_add_str (pv 1) (pv 2)) (by rfl)))) (fun _ _ _ _ _ => (pv 3))) (pe_lst pa_nil) (nomark _))))))), ?_⟩
  refine ⟨(by show 2 ≤ sizeLine; decide), fun p0 h0 => ⟨p0, _, rfl, SqT.of upd_same, rfl, _, _, rfl, _, _, rfl, rfl, ?_⟩⟩
  have s0 := same_new h0 (.tup [.str LTR, .str DIG])
  have dq := dq.same s0
  refine ⟨_, rfl, v, .ty "str", .type (tyD d), .type "str", _, rfl, .ty _, dq.ty, is_str d, ?_⟩
  have k0 := k _ s0
  cases dq with
  | str x =>
    have ⟨lx, ok⟩ := hz x rfl
    refine ⟨_, rfl, iteF ?_⟩
    refine ⟨_, rfl, x, rfl, sz6 lx, _, _, rfl, fun pr hpr => ⟨_, pr, _, _, rfl, rfl, upd_same, _, rfl, ?_⟩⟩
    have s1 := s0.trans (same_new hpr (.rng 1 13))
    have wd : wordD (.str x) = (decide (x.length ≤ 12) && (match x.cps.toList with
      | [] => false
      | c :: r => inS LTR c && (c :: r).all isAl)) := rfl
    have kk := fun M sM => k M (s1.trans sM)
    have kl := kk _ (Same.refl _)
    by_cases h1 : 1 ≤ x.length ∧ x.length ≤ 12
    · rw [decide_eq_true (by omega : (1 : Int) ≤ (x.length : Int) ∧ (x.length : Int) < 13)]
      obtain ⟨c, r, ex⟩ : ∃ c r, x.cps.toList = c :: r := by
        cases e : x.cps.toList with
        | nil =>
          have := str_len x
          rw [e] at this
          have : x.length = 0 := this.symm
          omega
        | cons c r => exact ⟨c, r, rfl⟩
      have ec : atI x.cps.toList (0 : Int) = some c := by rw [ex]; exact atI_nat (j := 0) rfl
      have wd2 : wordD (.str x) = (inS LTR c && x.cps.toList.all isAl) := by
        rw [wd, decide_eq_true h1.2, ex]; rfl
      show if false = true then _ else _
      refine iteF ⟨_, rfl, x, _, c, rfl, rfl, sz6 lx, ec, _, rfl, c, LTR, rfl, rfl, _, rfl, ?_⟩
      have q1 : decide (c ∈ LTR.cps.toList) = inS LTR c := rfl
      rw [q1]
      cases hc : inS LTR c with
      | false =>
        rw [wd2, hc] at kl
        exact iteT kl
      | true =>
        show if false = true then _ else _
        refine iteF ⟨_, rfl, x, rfl, fun D hD => ?_⟩
        refine lc_str (fun i M => Same (L2.upd (L2.upd H p0 (.tup [.str LTR, .str DIG])) pr (.rng 1 13)) M ∧ M D = some (.lst ((badC (x.cps.toList.take i)).map oneS))) ⟨same_new hD _, upd_same⟩ ?_ ?_
        · rintro i y M hy ⟨sM, eD⟩
          have hil : i < x.cps.toList.length := (List.getElem?_eq_some_iff.mp hy).1
          have eil : x.cps.toList[i] = y := (List.getElem?_eq_some_iff.mp hy).2
          have tk : badC (x.cps.toList.take (i + 1)) = badC (x.cps.toList.take i) ++ badC [y] := by
            unfold badC
            rw [List.take_succ_eq_append_getElem hil, List.filter_append, eil]
          have q2 : decide (y ∈ (LTR ++ DIG).cps.toList) = isAl y := in_cat y
          refine ⟨rfl, _, rfl, _, rfl, _, rfl, _, _, rfl, rfl, (by show 26 + 10 ≤ sizeLine; decide), y, LTR ++ DIG, rfl, rfl, _, rfl, ?_⟩
          rw [q2]
          cases hv : isAl y with
          | true =>
            have e1 : badC [y] = [] := by unfold badC; simp [hv]
            show if false = true then _ else _
            refine iteF ⟨sM, ?_⟩
            rw [tk, e1, List.append_nil]; exact eD
          | false =>
            have e1 : badC [y] = [y] := by unfold badC; simp [hv]
            show if true = true then _ else _
            refine iteT ⟨_, rfl, _, eD, ?_, ?_, ?_⟩
            · have l := List.length_filter_le (fun c => !isAl c) (x.cps.toList.take i)
              rw [List.length_take, str_len] at l
              rw [List.length_map]
              unfold badC
              exact small1000 (by omega)
            · intro b o e
              rw [upd_ne (ne_of_none e hD)]
              exact sM b o e
            · rw [upd_same, tk, e1, List.map_append]; rfl
        · rintro M ⟨sM, eD⟩
          have ef : x.cps.toList.take x.length = x.cps.toList := by rw [← str_len, List.take_length]
          rw [ef] at eD
          refine ⟨Nat.zero_le _, fun p hp => ?_⟩
          have s2 := same_new hp (.lst [])
          have sm : ∀ c ∈ badC x.cps.toList, c < 0x110000 := fun c hc => by
            have hm : c ∈ x.cps.toList := (List.mem_filter.mp hc).1
            have q : x.cps.all (fun c => decide (c < 0x110000)) = true := ok
            rw [← Array.all_toList, List.all_eq_true] at q
            exact of_decide_eq_true (q c hm)
          refine ⟨_, _, Dp.lst (SqL.of (s2 _ _ eD)) (dp_ones _), Dp.lst (SqL.of upd_same) .nil, ones_shaped sm, rfl, ?_⟩
          rw [eqv_nil, badC_nil]
          have z := kk _ (sM.trans s2)
          rw [wd2, hc, Bool.true_and] at z
          exact z
    · rw [decide_eq_false (by omega : ¬ ((1 : Int) ≤ (x.length : Int) ∧ (x.length : Int) < 13))]
      show if true = true then _ else _
      refine iteT ?_
      have w0 : wordD (.str x) = false := by
        rw [wd]
        by_cases h2 : x.length ≤ 12
        · have e0 : x.cps.toList = [] := List.length_eq_zero_iff.mp (by rw [str_len]; omega)
          rw [e0, Bool.and_false]
        · rw [decide_eq_false h2, Bool.false_and]
      rw [w0] at kl
      exact kl
  | non => exact ⟨_, rfl, k0⟩
  | bl _ => exact ⟨_, rfl, k0⟩
  | int _ => exact ⟨_, rfl, k0⟩
  | lst _ _ _ => exact ⟨_, rfl, k0⟩
  | tup _ _ => exact ⟨_, rfl, k0⟩
  | dct _ _ => exact ⟨_, rfl, k0⟩
end
end My
namespace My
open PySem PySem.Spec PyProof.Rows L2
section
variable {X : Cx}
def rEqT0 (K : PySem.W.Frag) : R2 := fun x y H Q => ∃ (a b : Addr) (xs : List V), x = .ref a ∧ y = .ref b ∧ SqT K H a xs ∧ SqT K H b [] ∧ Q (.bl (decide (xs.length = 0))) H
theorem op_eqT0 (hu : X.A.units + 64 < cLine) : OpR X (compareOp .Eq) (rEqT0 X.K) := by
  intro pins s σ H x y v u Q I rx ry h
  obtain ⟨a, b, xs, rfl, rfl, hx, hy, q⟩ := h
  cases (show v = Value.ref a from rx)
  cases (show u = Value.ref b from ry)
  obtain ⟨is, r1, p1, _⟩ := I.tuple hx
  obtain ⟨js, r2, p2, _⟩ := I.tuple hy
  have e1 := r1.length
  have e2 := r2.length
  have j0 : js.toArray.size = 0 := by rw [List.size_toArray]; exact e2.symm
  have e3 : ((List.range (min is.toArray.size js.toArray.size)).all (fun _ => true) && is.toArray.size == js.toArray.size) = decide (xs.length = 0) := by
    rw [j0, Nat.min_zero, List.size_toArray, ← e1]
    show (true && (xs.length == 0)) = _
    rw [Bool.true_and]
    rfl
  have R := SeqAt.RcAt.tuples (A := X.A) p1 p2 (by omega) (e := fun _ => true) (fun j _ h2 => absurd h2 (by rw [j0]; exact Nat.not_lt_zero _))
  rw [e3] at R
  exact R _ _ _ _ ⟨.bl _, H, I, rfl, q⟩
end
/-- a tree, as drawn -/
def treeF : Nat → PyData → Prop
  | 0, _ => False
  | n + 1, d => (∃ x, d = .str x) ∨ (forkD d = true ∧ treeF n (nthD d 0) ∧ treeF n (nthD d 1))
def spTree (f : Nat → PyData → List PyData) (n : Nat) : Sp := fun vs H Q _ => ∃ (v : V) (d : PyData), vs = [v] ∧ Dq H v d ∧ treeF n d ∧ n ≤ 20 ∧
  ∀ (a : Addr) (xs : List V) (H' : Hp), Same H H' → H a = none → H' a = some (.lst xs) → DqAll H' xs (f n d) → Q (.ref a) H'
/-- the first wrong side, as the law tells it -/
def spWL (n : Nat) : Sp := fun vs H Q _ => ∃ (v : V) (d : PyData), vs = [v] ∧ Dq H v d ∧ fitF n d ∧ n ≤ 1000 ∧ (wrongF n d = none → ∀ a H', Same H H' → H a = none → H' a = some (.lst []) → Q (.ref a) H') ∧
  (∀ p, wrongF n d = some p → ∀ a b H', Same H H' → H a = none → H' a = some (.lst [.ref b]) → H' b = some (.tup (p.map V.int)) → Q (.ref a) H')
section
variable {P : Program} {w : World} {K : PySem.W.Frag} {mg : Str → Option Value} {base : Heap}
theorem not_str {d : PyData} (h : forkD d = true) : decide (tyD d = "str") = false := by
  cases d <;> first | rfl | cases h
theorem is_tupD {d : PyData} (h : forkD d = true) : decide (tyD d = "tuple") = true := by
  cases d <;> first | rfl | cases h
theorem ok_law_leaves (T : Tx K mg) : ∀ n, FnOk P w K mg base CX0 (n + 2) T.a_law_leaves T.fd_law_leaves ["_law_tree"] (spTree leavesF n)
  | 0 => by
    refine T.F_law_leaves.ok sc_law_leaves (fun vs H Q E h => ?_) (fun cdv A outer st H vs Q E hr h => ?_)
    · obtain ⟨v, d, rfl, _⟩ := h
      rfl
    · obtain ⟨v, d, _, _, f, _⟩ := h
      exact f.elim
  | n + 1 => by
    refine T.F_law_leaves.ok sc_law_leaves (fun vs H Q E h => ?_) (fun cdv A outer st H vs Q E hr h => ?_)
    · obtain ⟨v, d, rfl, _⟩ := h
      rfl
    obtain ⟨v, d, rfl, dq, tf, hn, k⟩ := h
    have G_law_leaves : FnOk P w K mg base CX0 (n + 2) T.a_law_leaves T.fd_law_leaves ["_law_tree"] (spTree leavesF n) := ok_law_leaves T n
    have hr_law_leaves : Room (n + 2) _ := hr
    refine ⟨_, ((pss_cons (ps_if (pt_val (pe_callB (show CallR _ (.builtin "isinstance") (rIsi K) from call_isi) (by rfl) T.n_isinstance (by decide +kernel) (pa_cons (pv 0) (pa_cons (pe_bltn (v := .ty "str") (by rfl) T.n_str (by decide +kernel) rfl) pa_nil))))
        (pss_one (ps_ret (pe_lst (pa_cons (pv 0) pa_nil))))
        pss_nil)
      (pss_one (ps_ret (pe_op op_cat (pe_call G_law_leaves hr_law_leaves rfl T.m_law_leaves T.F_law_leaves.kp T.b_law_leaves .nil pass0 (pa_cons (pe_ix ix_tup (pv 0) pe_int (fun _ _ => rfl)) pa_nil)) (pe_call G_law_leaves hr_law_leaves rfl T.m_law_leaves T.F_law_leaves.kp T.b_law_leaves .nil pass0 (pa_cons (pe_ix ix_tup (pv 0) pe_int (fun _ _ => rfl)) pa_nil))))))), ?_⟩
    refine ⟨_, rfl, v, .ty "str", .type (tyD d), .type "str", _, rfl, .ty _, dq.ty, is_str d, ?_⟩
    rcases tf with ⟨x, rfl⟩ | ⟨hf, t0, t1⟩
    · cases dq with
      | str _ =>
        refine ⟨_, rfl, iteT ⟨_, rfl, (by show 1 ≤ sizeLine; decide), fun p hp => k p _ _ (same_new hp _) hp upd_same ?_⟩⟩
        exact .cons (.str x) .nil
    · rw [not_str hf]
      have lf : leavesF (n + 1) d = leavesF n (nthD d 0) ++ leavesF n (nthD d 1) := if_pos hf
      obtain ⟨a, x, y, z, rfl, ea, dx, dy, dz⟩ := dq.fork hf
      refine ⟨_, rfl, iteF ⟨_, rfl, a, _, _, _, rfl, rfl, SqT.of ea, atI_nat (j := 0) rfl, x, _, rfl, dx, t0, by omega, fun b xs H2 s2 hb eb dxs => ?_⟩⟩
      refine ⟨_, rfl, a, _, _, _, rfl, rfl, SqT.of (s2 _ _ ea), atI_nat (j := 1) rfl, y, _, rfl, dy.same s2, t1, by omega, fun b2 ys H3 s3 hb2 eb2 dys => ?_⟩
      refine ⟨b, b2, xs, ys, rfl, rfl, s3 _ _ eb, eb2, ?_, fun p hp => ?_⟩
      · rw [dxs.length, dys.length]
        have a1 := leavesF_len n (nthD d 0)
        have a2 := leavesF_len n (nthD d 1)
        have a3 := small20 (by omega : n ≤ 20)
        rw [sizeLine_eq]; omega
      · have sp := same_new hp (.lst (xs ++ ys))
        refine k p _ _ ((s2.trans s3).trans sp) ((s2.trans s3).free hp) upd_same ?_
        rw [lf]
        exact (dxs.same (s3.trans sp)).append (dys.same sp)
theorem ok_law_forks_of (T : Tx K mg) : ∀ n, FnOk P w K mg base CX0 (n + 3) T.a_law_forks_of T.fd_law_forks_of ["_law_tree"] (spTree forksF n)
  | 0 => by
    refine T.F_law_forks_of.ok sc_law_forks_of (fun vs H Q E h => ?_) (fun cdv A outer st H vs Q E hr h => ?_)
    · obtain ⟨v, d, rfl, _⟩ := h
      rfl
    · obtain ⟨v, d, _, _, f, _⟩ := h
      exact f.elim
  | n + 1 => by
    refine T.F_law_forks_of.ok sc_law_forks_of (fun vs H Q E h => ?_) (fun cdv A outer st H vs Q E hr h => ?_)
    · obtain ⟨v, d, rfl, _⟩ := h
      rfl
    obtain ⟨v, d, rfl, dq, tf, hn, k⟩ := h
    have G_law_forks_of : FnOk P w K mg base CX0 (n + 3) T.a_law_forks_of T.fd_law_forks_of ["_law_tree"] (spTree forksF n) := ok_law_forks_of T n
    have hr_law_forks_of : Room (n + 3) _ := hr
    have G_law_leaves : FnOk P w K mg base CX0 (n + 2) T.a_law_leaves T.fd_law_leaves ["_law_tree"] (spTree leavesF n) := ok_law_leaves T n
    have hr_law_leaves : Room (n + 2) _ := hr.mono (by omega)
    refine ⟨_, ((pss_cons (ps_if (PW.pt (pw_or (pt_val (pe_callB (show CallR _ (.builtin "isinstance") (rIsi K) from call_isi) (by rfl) T.n_isinstance (by decide +kernel) (pa_cons (pv 0) (pa_cons (pe_bltn (v := .ty "str") (by rfl) T.n_str (by decide +kernel) rfl) pa_nil)))) (pw_or1 (pt_cmpR (op_eqT0 hr.units) (pv 0) (pe_tup pa_nil) (nomark _)))))
        (pss_one (ps_ret (pe_lst pa_nil)))
        pss_nil)
      (pss_cons (ps_set (i := 1) sc_law_forks_of.nd rfl (Or.inl rfl) (pe_tup (pa_cons (pe_ix ix_tup (pv 0) pe_int (fun _ _ => rfl)) (pa_cons (pe_callTy call_tuple_of (by rfl) T.n_tuple (by decide +kernel) (pa_cons (pe_call G_law_leaves hr_law_leaves rfl T.m_law_leaves T.F_law_leaves.kp T.b_law_leaves .nil pass0 (pa_cons (pe_ix ix_tup (pv 0) pe_int (fun _ _ => rfl)) pa_nil)) pa_nil)) (pa_cons (pe_callTy call_tuple_of (by rfl) T.n_tuple (by decide +kernel) (pa_cons (pe_call G_law_leaves hr_law_leaves rfl T.m_law_leaves T.F_law_leaves.kp T.b_law_leaves .nil pass0 (pa_cons (pe_ix ix_tup (pv 0) pe_int (fun _ _ => rfl)) pa_nil)) pa_nil)) pa_nil)))))
      (pss_one (ps_ret (pe_op op_cat (pe_op op_cat (pe_lst (pa_cons (pv 1) pa_nil)) (pe_call G_law_forks_of hr_law_forks_of rfl T.m_law_forks_of T.F_law_forks_of.kp T.b_law_forks_of .nil pass0 (pa_cons (pe_ix ix_tup (pv 0) pe_int (fun _ _ => rfl)) pa_nil))) (pe_call G_law_forks_of hr_law_forks_of rfl T.m_law_forks_of T.F_law_forks_of.kp T.b_law_forks_of .nil pass0 (pa_cons (pe_ix ix_tup (pv 0) pe_int (fun _ _ => rfl)) pa_nil)))))))), ?_⟩
    refine ⟨_, rfl, v, .ty "str", .type (tyD d), .type "str", _, rfl, .ty _, dq.ty, is_str d, ?_⟩
    rcases tf with ⟨x, rfl⟩ | ⟨hf, t0, t1⟩
    · cases dq with
      | str _ => exact ⟨_, rfl, iteT ⟨Nat.zero_le _, fun p hp => k p [] _ (same_new hp _) hp upd_same .nil⟩⟩
    · rw [not_str hf]
      have lf : forksF (n + 1) d = [.tuple [nthD d 2, .tuple (leavesF n (nthD d 0)), .tuple (leavesF n (nthD d 1))]] ++ forksF n (nthD d 0) ++ forksF n (nthD d 1) := if_neg (by rw [hf]; exact fun z => Bool.noConfusion z)
      obtain ⟨a, x, y, z, rfl, ea, dx, dy, dz⟩ := dq.fork hf
      refine ⟨_, rfl, iteF ⟨_, rfl, Nat.zero_le _, fun pe he => ⟨a, pe, _, rfl, rfl, SqT.of (same_new he _ _ _ ea), SqT.of upd_same, _, rfl, iteF ?_⟩⟩⟩
      have s1 := same_new he (.tup [])
      have ea := s1 _ _ ea
      have dx := dx.same s1
      have dy := dy.same s1
      have dz := dz.same s1
      refine ⟨_, rfl, a, _, _, _, rfl, rfl, SqT.of ea, atI_nat (j := 2) rfl, ?_⟩
      refine ⟨_, rfl, a, _, _, _, rfl, rfl, SqT.of ea, atI_nat (j := 0) rfl, x, _, rfl, dx, t0, by omega, fun b xs H2 s2 hb eb dxs => ⟨b, xs, rfl, .inl ⟨SqL.of eb, fun t1' k1 => ?_⟩⟩⟩
      have u1 := same_new k1 (.tup xs)
      refine ⟨_, rfl, a, _, _, _, rfl, rfl, SqT.of (u1 _ _ (s2 _ _ ea)), atI_nat (j := 1) rfl, y, _, rfl, dy.same (s2.trans u1), t1, by omega, fun b2 ys H3 s3 hb2 eb2 dys => ⟨b2, ys, rfl, .inl ⟨SqL.of eb2, fun t2 k2 => ?_⟩⟩⟩
      have u2 := same_new k2 (.tup ys)
      refine ⟨(by show 3 ≤ sizeLine; decide), fun t3 k3 => ?_⟩
      have u3 := same_new k3 (.tup [z, .ref t1', .ref t2])
      have s13 := ((s2.trans u1).trans s3).trans (u2.trans u3)
      have d3 : Dq _ (.ref t3) (.tuple [nthD d 2, .tuple (leavesF n (nthD d 0)), .tuple (leavesF n (nthD d 1))]) := .tup (upd_same (o := .tup [z, .ref t1', .ref t2]))
        (.cons (dz.same s13) (.cons (.tup ((s3.trans (u2.trans u3)) _ _ upd_same) (dxs.same ((u1.trans s3).trans (u2.trans u3)))) (.cons (.tup (u3 _ _ upd_same) (dys.same (u2.trans u3))) .nil)))
      refine ⟨_, rfl, (by show 1 ≤ sizeLine; decide), fun p1 h1 => ?_⟩
      have w1 := same_new h1 (.lst [.ref t3])
      have ea4 := (s13.trans w1) _ _ ea
      refine ⟨_, rfl, a, _, _, _, rfl, rfl, SqT.of ea4, atI_nat (j := 0) rfl, x, _, rfl, dx.same (s13.trans w1), t0, by omega, fun q1 zs H4 s4 hq1 eq1 dzs => ?_⟩
      have l0 := forksF_len n (nthD d 0)
      have l1 := forksF_len n (nthD d 1)
      have l2 := small20 (by omega : n ≤ 20)
      refine ⟨p1, q1, _, zs, rfl, rfl, s4 _ _ upd_same, eq1, ?_, fun p2 h2 => ?_⟩
      · rw [dzs.length, sizeLine_eq]; show 1 + _ ≤ _; omega
      have w2 := same_new h2 (.lst ([.ref t3] ++ zs))
      have s5 := ((s13.trans w1).trans s4).trans w2
      refine ⟨_, rfl, a, _, _, _, rfl, rfl, SqT.of (s5 _ _ ea), atI_nat (j := 1) rfl, y, _, rfl, dy.same s5, t1, by omega, fun q2 us H5 s6 hq2 eq2 dus => ?_⟩
      refine ⟨p2, q2, _, us, rfl, rfl, s6 _ _ upd_same, eq2, ?_, fun p3 h3 => ?_⟩
      · rw [List.length_append, dzs.length, dus.length, sizeLine_eq]; show 1 + _ + _ ≤ _; omega
      have w3 := same_new h3 (.lst ([.ref t3] ++ zs ++ us))
      have sA := ((s1.trans s5).trans s6).trans w3
      refine k p3 _ _ sA (((s1.trans s5).trans s6).free h3) upd_same ?_
      rw [lf]
      exact ((DqAll.cons (d3.same (((w1.trans s4).trans w2).trans (s6.trans w3))) .nil).append (dzs.same (w2.trans (s6.trans w3)))).append (dus.same w3)
end
end My
namespace My
open PySem PySem.Spec PyProof.Rows L2
section
variable {X : Cx}
def rNeLen (K : PySem.W.Frag) : R2 := fun x y H Q => ∃ (a b : Addr) (xs ys : List V), x = .ref a ∧ y = .ref b ∧ SqL K H a xs ∧ SqL K H b ys ∧ xs.length ≠ ys.length ∧ Q (.bl true) H
theorem op_neLen (hu : X.A.units + 64 < cLine) : OpR X (compareOp .NotEq) (rNeLen X.K) := by
  intro pins s σ H x y v u Q I rx ry h
  obtain ⟨a, b, xs, ys, rfl, rfl, hx, hy, hn, q⟩ := h
  cases (show v = Value.ref a from rx)
  cases (show u = Value.ref b from ry)
  obtain ⟨is, r1, p1, _⟩ := I.list hx
  obtain ⟨js, r2, p2, _⟩ := I.list hy
  have e1 := r1.length
  have e2 := r2.length
  have hb : (is.toArray.size != js.toArray.size) = true := by
    rw [List.size_toArray, List.size_toArray]
    exact bne_iff_ne.mpr (by omega)
  exact SeqAt.RcNeAt.lists_lengths p1.isList p2.isList hb (by omega) _ _ _ _ ⟨.bl true, H, I, rfl, q⟩
end
theorem fork_not {d : PyData} (h : forkD d = false) : tyD d ≠ "tuple" ∨ ∃ ds, d = .tuple ds ∧ ds.length ≠ 3 := by
  cases d with
  | tuple ds => exact .inr ⟨ds, rfl, fun e => by
      have : decide (ds.length = 3) = false := h
      rw [decide_eq_true e] at this
      cases this⟩
  | none => exact .inl (by show ("NoneType" : String) ≠ "tuple"; decide)
  | bool _ => exact .inl (by show ("bool" : String) ≠ "tuple"; decide)
  | int _ => exact .inl (by show ("int" : String) ≠ "tuple"; decide)
  | str _ => exact .inl (by show ("str" : String) ≠ "tuple"; decide)
  | list _ => exact .inl (by show ("list" : String) ≠ "tuple"; decide)
  | dict _ => exact .inl (by show ("dict" : String) ≠ "tuple"; decide)
section
variable {P : Program} {w : World} {K : PySem.W.Frag} {mg : Str → Option Value} {base : Heap}
theorem ok_law_wrong_tree (T : Tx K mg) : ∀ n, FnOk P w K mg base CX0 (n + 2) T.a_law_wrong_tree T.fd_law_wrong_tree ["_law_value"] (spWL n)
  | 0 => by
    refine T.F_law_wrong_tree.ok sc_law_wrong_tree (fun vs H Q E h => ?_) (fun cdv A outer st H vs Q E hr h => ?_)
    · obtain ⟨v, d, rfl, _⟩ := h
      rfl
    · obtain ⟨v, d, _, _, f, _⟩ := h
      exact f.elim
  | n + 1 => by
    refine T.F_law_wrong_tree.ok sc_law_wrong_tree (fun vs H Q E h => ?_) (fun cdv A outer st H vs Q E hr h => ?_)
    · obtain ⟨v, d, rfl, _⟩ := h
      rfl
    obtain ⟨v, d, rfl, dq, ⟨ft, fc⟩, hn, kN, kS⟩ := h
    have G_law_wrong_tree : FnOk P w K mg base CX0 (n + 2) T.a_law_wrong_tree T.fd_law_wrong_tree ["_law_value"] (spWL n) := ok_law_wrong_tree T n
    have hr_law_wrong_tree : Room (n + 2) _ := hr
    have G_law_is_word : FnOk P w K mg base CX0 1 T.a_law_is_word T.fd_law_is_word ["_law_value"] spWordL := ok_law_is_word T
    have hr_law_is_word : Room 1 _ := hr.mono (by omega)
    refine ⟨_, ((pss_cons (ps_if (pt_val (pe_callB (show CallR _ (.builtin "isinstance") (rIsi K) from call_isi) (by rfl) T.n_isinstance (by decide +kernel) (pa_cons (pv 0) (pa_cons (pe_bltn (v := .ty "str") (by rfl) T.n_str (by decide +kernel) rfl) pa_nil))))
        (pss_one (ps_ret (pe_ifExp (pt_val (pe_call G_law_is_word hr_law_is_word rfl T.m_law_is_word T.F_law_is_word.kp T.b_law_is_word .nil pass0 (pa_cons (pv 0) pa_nil))) (pe_lst pa_nil) (pe_lst (pa_cons (pe_tup pa_nil) pa_nil)))))
        pss_nil)
      (pss_cons (ps_if (PW.pt (pw_or (pt_not (pt_val (pe_callB (show CallR _ (.builtin "isinstance") (rIsi K) from call_isi) (by rfl) T.n_isinstance (by decide +kernel) (pa_cons (pv 0) (pa_cons (pe_bltn (v := .ty "tuple") (by rfl) T.n_tuple (by decide +kernel) rfl) pa_nil))))) (pw_or1 (pt_cmpR op_ne (pe_callB call_len_seq (by rfl) T.n_len (by decide +kernel) (pa_cons (pv 0) pa_nil)) pe_int (nomark _)))))
        (pss_one (ps_ret (pe_lst (pa_cons (pe_tup pa_nil) pa_nil))))
        pss_nil)
      (pss_cons (ps_for PassesOwn.never rfl (pi_range1 rfl T.n_range (pa_cons pe_int pa_nil)) (pg_name (i := 1) sc_law_wrong_tree.nd rfl (Or.inl rfl))
        (pss_cons (ps_set (i := 2) sc_law_wrong_tree.nd rfl (Or.inl rfl) (pe_call G_law_wrong_tree hr_law_wrong_tree rfl T.m_law_wrong_tree T.F_law_wrong_tree.kp T.b_law_wrong_tree .nil pass0 (pa_cons (pe_ix ix_tup (pv 0) (pv 1) (fun _ _ => rfl)) pa_nil)))
      (pss_one (ps_if (pt_cmpR (OpR.or (op_neD hr.units) (op_neLen hr.units)) (pv 2) (pe_lst pa_nil) (nomark _))
        (pss_one (ps_ret (pe_lst (pa_cons (pe_op op_catT (pe_tup (pa_cons (pv 1) pa_nil)) (pe_ix ix_list (pv 2) pe_int (fun _ _ => rfl))) pa_nil))))
        pss_nil))))
      (pss_one (ps_ret (pe_ifExp (PW.pt (pw_or (pt_cmpR op_isN (pe_ix ix_tup (pv 0) pe_int (fun _ _ => rfl)) pe_non (nomark _)) (pw_or1 (pt_val (pe_call G_law_is_word hr_law_is_word rfl T.m_law_is_word T.F_law_is_word.kp T.b_law_is_word .nil pass0 (pa_cons (pe_ix ix_tup (pv 0) pe_int (fun _ _ => rfl)) pa_nil)))))) (pe_lst pa_nil) (pe_lst (pa_cons (pe_tup (pa_cons pe_int pa_nil)) pa_nil))))))))), ?_⟩
    have none_ : ∀ M, Same H M → wrongF (n + 1) d = none → 0 ≤ sizeLine ∧ ∀ p, M p = none → Q (.ref p) (L2.upd M p (.lst [])) := fun M sM e => ⟨Nat.zero_le _, fun p hp => kN e p _ (sM.trans (same_new hp _)) (sM.free hp) upd_same⟩
    have some_ : ∀ M, Same H M → ∀ q c, wrongF (n + 1) d = some q → M c = some (.tup (q.map V.int)) → 1 ≤ sizeLine ∧ ∀ p, M p = none → Q (.ref p) (L2.upd M p (.lst [.ref c])) := fun M sM q c e ec => ⟨(by show 1 ≤ sizeLine; decide), fun p hp => kS q e p c _ (sM.trans (same_new hp _)) (sM.free hp) upd_same (same_new hp _ _ _ ec)⟩
    refine ⟨_, rfl, v, .ty "str", .type (tyD d), .type "str", _, rfl, .ty _, dq.ty, is_str d, ?_⟩
    by_cases hs : tyD d = "str"
    · rw [decide_eq_true hs]
      refine ⟨_, rfl, iteT ⟨_, rfl, v, d, rfl, dq, ft, fun H1 s1 => ⟨_, rfl, ?_⟩⟩⟩
      cases hw : wordD d with
      | true => exact iteT (none_ H1 s1 (wrongF_word hw))
      | false =>
        have nf : forkD d = false := by
          cases d <;> first | rfl | exact absurd (show ("tuple" : String) = "str" from hs) (by decide)
        exact iteF ⟨Nat.zero_le _, fun c hc => some_ _ (s1.trans (same_new hc _)) [] c (wrongF_other hw nf) upd_same⟩
    · rw [decide_eq_false hs]
      have hw : wordD d = false := by
        cases d <;> first | rfl | exact absurd rfl hs
      refine ⟨_, rfl, iteF ?_⟩
      refine ⟨_, rfl, v, .ty "tuple", .type (tyD d), .type "tuple", _, rfl, .ty _, dq.ty, is_tup d, ?_⟩
      cases hf : forkD d with
      | false =>
        have e := wrongF_other (n := n) hw hf
        rcases fork_not hf with ht | ⟨ds, rfl, nl⟩
        · rw [decide_eq_false ht]
          exact ⟨_, rfl, ⟨Nat.zero_le _, fun c hc => some_ _ (same_new hc _) [] c e upd_same⟩⟩
        · cases dq with
          | tup ea hs' =>
            rename_i a xs
            refine ⟨_, rfl, ?_⟩
            refine ⟨_, rfl, a, _, rfl, .inr (SqT.of ea), rfl, _, rfl, iteN (fun _ => ?_) (fun h => ?_)⟩
            · exact ⟨Nat.zero_le _, fun c hc => some_ _ (same_new hc _) [] c e upd_same⟩
            · have := V.int.inj h
              rw [hs'.length] at this
              omega
      | true =>
        rw [is_tupD hf]
        obtain ⟨a, x, y, z, rfl, ea, dx, dy, dz⟩ := dq.fork hf
        refine ⟨_, rfl, ?_⟩
        refine ⟨_, rfl, a, _, rfl, .inr (SqT.of ea), rfl, _, rfl, iteN (fun h => absurd rfl h) (fun _ => ?_)⟩
        have ⟨f0, f1, f2⟩ := fc hf
        have wf := wrongF_fork (n := n) hf
        refine ⟨_, rfl, by decide, by decide, for_range (lo := 0) (n := 2) (fun i σ M => ∃ v1 v2 : Option V, σ = [some (.ref a), v1, v2] ∧ Same H M ∧ (1 ≤ i → wrongF n (nthD d 0) = none) ∧ (2 ≤ i → wrongF n (nthD d 1) = none)) ⟨none, none, rfl, Same.refl _, fun h => absurd h (by decide), fun h => absurd h (by decide)⟩ ?_ ?_⟩
        · rintro i σ M hi ⟨v1, v2, rfl, sM, c0, c1⟩
          have eaM := sM _ _ ea
          have i01 : i = 0 ∨ i = 1 := by omega
          have side : ∀ (e : PyData) (j : Int), (∀ p, wrongF n e = some p → wrongF (n + 1) d = some (j :: p)) → ∀ (M1 : Hp), Same M M1 → ∀ p, wrongF n e = some p → ∀ (b : Addr), M1 b = some (.tup (p.map V.int)) → ∀ t, M1 t = none →
                ∃ (a' b' : Addr) (xs ys : List V), V.ref t = .ref a' ∧ V.ref b = .ref b' ∧ SqT K (L2.upd M1 t (.tup [.int j])) a' xs ∧ SqT K (L2.upd M1 t (.tup [.int j])) b' ys ∧ xs ≠ [] ∧ xs.length + ys.length ≤ sizeLine ∧
                  (ys = [] → 1 ≤ sizeLine ∧ ∀ p, (L2.upd M1 t (.tup [.int j])) p = none → Q (.ref p) (L2.upd (L2.upd M1 t (.tup [.int j])) p (.lst [.ref a']))) ∧
                  (ys ≠ [] → ∀ q, (L2.upd M1 t (.tup [.int j])) q = none → 1 ≤ sizeLine ∧ ∀ p, (L2.upd (L2.upd M1 t (.tup [.int j])) q (.tup (xs ++ ys))) p = none → Q (.ref p) (L2.upd (L2.upd (L2.upd M1 t (.tup [.int j])) q (.tup (xs ++ ys))) p (.lst [.ref q]))) := fun e j hp M1 sM1 p ep b eb t ht => by
            have st := same_new ht (.tup [.int j])
            have lp := wrongF_len n e p ep
            have s1 := (sM.trans sM1).trans st
            refine ⟨t, b, _, _, rfl, rfl, SqT.of upd_same, SqT.of (st _ _ eb), List.cons_ne_nil _ _, ?_, fun en => ?_, fun _ q hq => ?_⟩
            · rw [List.length_map]; exact sz6 (by show 1 + p.length ≤ _; omega)
            · have p0 : p = [] := List.map_eq_nil_iff.mp en
              refine some_ _ s1 (j :: p) t (hp p ep) ?_
              rw [p0]; exact upd_same
            · exact some_ _ (s1.trans (same_new hq _)) (j :: p) q (hp p ep) upd_same
          have done : ∀ (u : V) (e : PyData) (j : Int), Dq M u e → fitF n e → (wrongF n e = none → ∀ M1, Same H M1 → True) → True := fun _ _ _ _ _ _ => trivial
          rcases i01 with rfl | rfl
          · have at0 : atI [x, y, z] (0 + ((0 : Nat) : Int)) = some x := atI_nat (j := 0) rfl
            refine ⟨_, rfl, _, rfl, a, _, _, x, rfl, rfl, SqT.of eaM, at0, x, _, rfl, dx.same sM, f0, by omega, fun en c M1 s1' hc ec => ?_, fun p ep c b M1 s1' hc ec eb => ?_⟩
            · refine ⟨_, rfl, Nat.zero_le _, fun o ho => ?_⟩
              have so := same_new ho (.lst [])
              refine .inl ⟨_, _, Dp.lst (SqL.of (so _ _ ec)) .nil, Dp.lst (SqL.of upd_same) .nil, rfl, rfl, ?_⟩
              have ez : PyData.eqv (.list []) (.list []) = true := rfl
              rw [ez]
              exact ⟨_, rfl, _, _, rfl, (sM.trans s1').trans so, (fun _ => en), fun h => absurd h (by decide)⟩
            · refine ⟨_, rfl, Nat.zero_le _, fun o ho => ?_⟩
              have so := same_new ho (.lst [])
              refine .inr ⟨_, _, _, _, rfl, rfl, SqL.of (so _ _ ec), SqL.of upd_same, (by show 1 ≠ 0; decide), _, rfl, ?_⟩
              refine ⟨_, rfl, (by show 1 ≤ sizeLine; decide), fun t ht => ?_⟩
              have st := same_new ht (.tup [.int (0 + ((0 : Nat) : Int))])
              refine ⟨_, rfl, c, _, _, _, rfl, rfl, SqL.of (st _ _ (so _ _ ec)), atI_nat (j := 0) rfl, ?_⟩
              exact side _ 0 (fun p ep => by rw [wf, ep]) _ (s1'.trans so) p ep b (so _ _ eb) t ht
          · have e0 := c0 (Nat.le_refl _)
            have at1 : atI [x, y, z] (0 + ((1 : Nat) : Int)) = some y := atI_nat (j := 1) rfl
            refine ⟨_, rfl, _, rfl, a, _, _, y, rfl, rfl, SqT.of eaM, at1, y, _, rfl, dy.same sM, f1, by omega, fun en c M1 s1' hc ec => ?_, fun p ep c b M1 s1' hc ec eb => ?_⟩
            · refine ⟨_, rfl, Nat.zero_le _, fun o ho => ?_⟩
              have so := same_new ho (.lst [])
              refine .inl ⟨_, _, Dp.lst (SqL.of (so _ _ ec)) .nil, Dp.lst (SqL.of upd_same) .nil, rfl, rfl, ?_⟩
              have ez : PyData.eqv (.list []) (.list []) = true := rfl
              rw [ez]
              exact ⟨_, rfl, _, _, rfl, (sM.trans s1').trans so, (fun _ => e0), fun _ => en⟩
            · refine ⟨_, rfl, Nat.zero_le _, fun o ho => ?_⟩
              have so := same_new ho (.lst [])
              refine .inr ⟨_, _, _, _, rfl, rfl, SqL.of (so _ _ ec), SqL.of upd_same, (by show 1 ≠ 0; decide), _, rfl, ?_⟩
              refine ⟨_, rfl, (by show 1 ≤ sizeLine; decide), fun t ht => ?_⟩
              have st := same_new ht (.tup [.int (0 + ((1 : Nat) : Int))])
              refine ⟨_, rfl, c, _, _, _, rfl, rfl, SqL.of (st _ _ (so _ _ ec)), atI_nat (j := 0) rfl, ?_⟩
              exact side _ 1 (fun p ep => by rw [wf, e0, ep]) _ (s1'.trans so) p ep b (so _ _ eb) t ht
        · rintro σ M ⟨v1, v2, rfl, sM, c0, c1⟩
          have e0 := c0 (by decide)
          have e1 := c1 (by decide)
          rw [e0, e1] at wf
          have wf : wrongF (n + 1) d = if noneD (nthD d 2) = true ∨ wordD (nthD d 2) = true then none else some [2] := wf
          have eaM := sM _ _ ea
          have at2 : atI [x, y, z] (2 : Int) = some z := atI_nat (j := 2) rfl
          refine ⟨_, rfl, a, _, _, _, rfl, rfl, SqT.of eaM, at2, rfl, _, rfl, ?_⟩
          rw [dec_non dz]
          cases hz : noneD (nthD d 2) with
          | true =>
            rw [if_pos (.inl hz)] at wf
            exact iteT (none_ M sM wf)
          | false =>
            refine iteF ⟨_, rfl, a, _, _, _, rfl, rfl, SqT.of eaM, at2, z, _, rfl, dz.same sM, f2, fun M2 sM2 => ⟨_, rfl, ?_⟩⟩
            cases hzw : wordD (nthD d 2) with
            | true =>
              rw [if_pos (.inr hzw)] at wf
              exact iteT (none_ M2 (sM.trans sM2) wf)
            | false =>
              rw [if_neg (by rw [hz, hzw]; simp)] at wf
              exact iteF ⟨(by show 1 ≤ sizeLine; decide), fun c hc => some_ _ ((sM.trans sM2).trans (same_new hc _)) [2] c wf upd_same⟩
end
end My
namespace My
open PySem PySem.Spec PyProof.Rows L2
section
variable {P : Program} {w : World} {K : PySem.W.Frag} {mg : Str → Option Value} {base : Heap}
theorem max1 {n : Int} (h : 1 ≤ n) : (if n > 1 then n else 1) = n := by
  by_cases e : n > 1
  · rw [if_pos e]
  · rw [if_neg e]; omega
/-- the number of cells that are left -/
def cellsLeft (c : Addr) (H : Hp) : Nat := match H c with
  | some (.lst xs) => xs.length
  | _ => 0
theorem ok_pick (T : Tx K mg) : FnOk P w K mg base CX0 1 T.a_law_pick T.fd_law_pick ["_law_source_here", "_law_many"] spPick := by
  refine T.F_law_pick.ok sc_law_pick (fun vs H Q E h => ?_) (fun cdv A outer st H vs Q E hr h => ?_)
  · obtain ⟨s, c, n, rfl, _⟩ := h
    rfl
  obtain ⟨s, c, n, rfl, hS, h1, h2, k⟩ := h
  have hu := hu_of hr
  refine ⟨_, ((pss_cons (ps_while PassesOwn.never (PW.pt (pw_and (pt_cmpR op_gt (pv 1) pe_int (nomark _)) (pw_and (pt_cmpR op_lt (pe_dget hu (pv 0) pe_str (fun _ _ => rfl)) pe_int (nomark _)) (pw_and1 (pt_cmpR op_gt (pe_callB call_len_seq (by rfl) T.n_len (by decide +kernel) (pa_cons (pe_dget hu (pv 0) pe_str (fun _ _ => rfl)) pa_nil)) pe_int (nomark _))))))
        (pss_one (ps_dput hu (pv 0) pe_str (pe_bm0 PySem.F.plainAttrs_list PySem.F.slot_list_pop PySem.F.type_list_pop mt_pop (pe_dget hu (pv 0) pe_str (fun _ _ => rfl))) rfl)))
      (pss_cons (ps_set (i := 2) sc_law_pick.nd rfl (Or.inl rfl) (pe_dget hu (pv 0) pe_str (fun _ _ => rfl)))
      (pss_cons (ps_if (PW.pt (pw_or (pt_cmpR op_lt (pv 1) pe_int (nomark _)) (pw_or1 (pt_cmpR op_gt (pv 2) pe_int (nomark _)))))
        (pss_cons (ps_dput hu (pv 0) pe_str (pe_op op_fdiv (pv 2) (pe_callB (call_max2 rfl) (by rfl) T.n_max (by decide +kernel) (pa_cons pe_int (pa_cons (pv 1) pa_nil)))) rfl)
      (pss_one (ps_ret (pe_op op_mod (pe_callTy call_int1 (by rfl) T.n_int (by decide +kernel) (pa_cons (pv 2) pa_nil)) (pe_callB (call_max2 rfl) (by rfl) T.n_max (by decide +kernel) (pa_cons pe_int (pa_cons (pv 1) pa_nil)))))))
        pss_nil)
      (pss_cons (ps_dput hu (pv 0) pe_str (pe_op op_add (pe_dget hu (pv 0) pe_str (fun _ _ => rfl)) pe_int) rfl)
      (pss_cons (ps_set (i := 3) sc_law_pick.nd rfl (Or.inl rfl) (pe_op op_mod (pe_callTy call_int1 (by rfl) T.n_int (by decide +kernel) (pa_cons (pe_op op_add (pe_dget hu (pv 0) pe_str (fun _ _ => rfl)) (pe_op op_mul (pe_dget hu (pv 0) pe_str (fun _ _ => rfl)) pe_int)) pa_nil)) pe_int))
      (pss_cons (ps_set (i := 3) sc_law_pick.nd rfl (Or.inl rfl) (pe_op op_mod (pe_callTy call_int1 (by rfl) T.n_int (by decide +kernel) (pa_cons (pe_op op_add (pe_op op_mul (pv 3) (pv 3)) (pe_op op_mul (pe_dget hu (pv 0) pe_str (fun _ _ => rfl)) pe_int)) pa_nil)) pe_int))
      (pss_cons (ps_dput hu (pv 0) pe_str (pv 3) rfl)
      (pss_one (ps_ret (pe_op op_mod (pe_callTy call_int1 (by rfl) T.n_int (by decide +kernel) (pa_cons (pe_op op_fdiv (pv 3) pe_int) pa_nil)) (pv 1)))))))))))), ?_⟩
  -- the while
  refine while_b (fun σ H' => σ = [some (.ref s), some (.int n), none, none] ∧ Go s c H H') (fun _ H' => cellsLeft c H') ⟨rfl, Go.refl hS⟩ ?_
  rintro σ H1 ⟨rfl, g⟩
  obtain ⟨l, m, t, ns, S⟩ := id g.src
  have gs : ∀ (x : Str) (v : V), valV (srcD c l m t) (Sum.inr x) = some v → DGet H1 s (.str x) (some v) := fun x v e => by
    rw [← e]
    exact DGet.k (k := Sum.inr x) S.hs
  by_cases hw : 1 < n ∧ l < 2 ∧ ns ≠ []
  · obtain ⟨w1, w2, w3⟩ := hw
    refine ⟨true, fun Q' q => ?_, ?_⟩
    · refine ⟨_, rfl, _, _, rfl, rfl, _, rfl, iteD (fun _ => ?_) (fun z => absurd w1 z)⟩
      refine ⟨_, rfl, s, _, rfl, gs "left" _ (get_left _ _ _ _), _, _, rfl, rfl, _, rfl, iteD (fun _ => ?_) (fun z => absurd w2 z)⟩
      refine ⟨_, rfl, s, _, rfl, gs "cells" _ (get_cells _ _ _ _), c, _, rfl, .inl (SqL.of S.hc), _, _, rfl, rfl, _, rfl, ?_⟩
      have e : decide ((0 : Int) < (((ns.map V.int).length : Nat) : Int)) = true := by
        rw [List.length_map]
        cases ns with
        | nil => exact absurd rfl w3
        | cons a r => exact decide_eq_true (by rw [List.length_cons]; omega)
      rw [e]
      exact q
    · refine iteT ?_
      have hlast : ∃ (y : Int), (ns.map V.int)[(ns.map V.int).length - 1]? = some (.int y) ∧ 0 ≤ y := by
        have hp : 0 < ns.length := List.length_pos_iff.mpr w3
        refine ⟨ns[ns.length - 1], ?_, S.n0 _ (List.getElem_mem _)⟩
        rw [List.length_map, List.getElem?_map, List.getElem?_eq_getElem (by omega)]
        rfl
      obtain ⟨y, ey, y0⟩ := hlast
      have hsc : s ≠ c := S.ne
      refine ⟨_, rfl, s, _, rfl, gs "cells" _ (get_cells _ _ _ _), .inl ⟨rfl, _, SqL.of S.hc⟩, c, _, _, rfl, rfl, S.hc, ey, ?_⟩
      refine ⟨_, rfl, s, _, rfl, DPut.k (k := Sum.inr "left") (kvs := srcD c l m t) (by rw [upd_ne hsc]; exact S.hs) (by show 4 < sizeLine; decide), ?_⟩
      rw [put_left]
      have S2 : SrcL (upd (upd H1 c (.lst (ns.map V.int).dropLast)) s (.dK (srcD c y m t))) s c y m t ns.dropLast :=
        ⟨upd_same, by rw [upd_ne hsc.symm, upd_same, List.map_dropLast], y0, S.m0, S.m1, S.t0, fun n h => S.n0 n (List.dropLast_subset _ h), by rw [List.length_dropLast]; have := S.len; omega⟩
      refine ⟨⟨rfl, ⟨fun a o h1 h2 e => ?_, _, _, _, _, S2⟩⟩, ?_⟩
      · rw [upd_ne h1, upd_ne h2]
        exact g.keep a o h1 h2 e
      · show cellsLeft c _ < cellsLeft c _
        unfold cellsLeft
        rw [S2.hc, S.hc]
        show (ns.dropLast.map V.int).length < (ns.map V.int).length
        rw [List.length_map, List.length_map, List.length_dropLast]
        have hp : 0 < ns.length := List.length_pos_iff.mpr w3
        omega
  · refine ⟨false, fun Q' q => ?_, iteF ?_⟩
    · refine ⟨_, rfl, _, _, rfl, rfl, _, rfl, iteD (fun w1 => ?_) (fun _ => q)⟩
      refine ⟨_, rfl, s, _, rfl, gs "left" _ (get_left _ _ _ _), _, _, rfl, rfl, _, rfl, iteD (fun w2 => ?_) (fun _ => q)⟩
      refine ⟨_, rfl, s, _, rfl, gs "cells" _ (get_cells _ _ _ _), c, _, rfl, .inl (SqL.of S.hc), _, _, rfl, rfl, _, rfl, ?_⟩
      have e0 : ns = [] := by
        cases e : ns with
        | nil => rfl
        | cons a r => exact absurd ⟨w1, w2, by rw [e]; exact List.cons_ne_nil _ _⟩ hw
      have e : decide ((0 : Int) < (((ns.map V.int).length : Nat) : Int)) = false := by
        rw [e0]
        rfl
      rw [e]
      exact q
    -- behind the while
    refine ⟨_, rfl, s, _, rfl, gs "left" _ (get_left _ _ _ _), ?_⟩
    have put : ∀ (l' m' t' : Int), 0 ≤ l' → 0 ≤ m' → m' < 4294967296 → 0 ≤ t' → ∀ H2, Go s c H H2 → (∀ b, b ≠ s → H2 b = H1 b) → SrcL (upd H2 s (.dK (srcD c l' m' t'))) s c l' m' t' ns ∧ Go s c H (upd H2 s (.dK (srcD c l' m' t'))) := fun l' m' t' a1 a2 a3 a4 H2 g2 e2 => by
      have S3 : SrcL (upd H2 s (.dK (srcD c l' m' t'))) s c l' m' t' ns := ⟨upd_same, by rw [upd_ne S.ne.symm, e2 _ S.ne.symm]; exact S.hc, a1, a2, a3, a4, S.n0, S.len⟩
      refine ⟨S3, fun a o h1 h2 e => ?_, _, _, _, _, S3⟩
      rw [upd_ne h1]
      exact g2.keep a o h1 h2 e
    have sz : (srcD c l m t).length < sizeLine := by show 4 < sizeLine; decide
    -- if many < 2 or left > 1
    refine ⟨_, rfl, _, _, rfl, rfl, _, rfl, iteD (fun c1 => ?ga) (fun c1 => ⟨_, rfl, _, _, rfl, rfl, _, rfl, iteD (fun c2 => ?gb) (fun c2 => ?gc)⟩)⟩
    case gc =>
      -- the mixed number
      have S2 := put l m (t + 1) S.l0 S.m0 S.m1 (by have := S.t0; omega) H1 g (fun _ _ => rfl)
      refine ⟨_, rfl, s, _, rfl, gs "turn" _ (get_turn _ _ _ _), _, _, rfl, rfl, _, rfl, s, _, rfl, DPut.k (k := Sum.inr "turn") S.hs sz, ?_⟩
      rw [put_turn]
      have gs2 : ∀ (x : Str) (v : V), valV (srcD c l m (t + 1)) (Sum.inr x) = some v → DGet (upd H1 s (.dK (srcD c l m (t + 1)))) s (.str x) (some v) := fun x v e => by
        rw [← e]
        exact DGet.k (k := Sum.inr x) upd_same
      refine ⟨_, rfl, s, _, rfl, gs2 "mixed" _ (get_mixed _ _ _ _), _, rfl, s, _, rfl, gs2 "turn" _ (get_turn _ _ _ _), _, _, rfl, rfl, .inr ⟨by decide, by decide⟩, _, _, rfl, rfl, .inl ⟨_, rfl, _, _, rfl, rfl, (by show (0 : Int) < 998244353; decide), ?_⟩⟩
      generalize hm : (m + (t + 1) * 104729) % 998244353 = m1
      have hm0 : 0 ≤ m1 ∧ m1 < 998244353 := by rw [← hm]; omega
      refine ⟨_, rfl, _, rfl, _, _, rfl, rfl, .inl ⟨by omega, by omega⟩, _, rfl, s, _, rfl, gs2 "turn" _ (get_turn _ _ _ _), _, _, rfl, rfl, .inr ⟨by decide, by decide⟩, _, _, rfl, rfl, .inl ⟨_, rfl, _, _, rfl, rfl, (by show (0 : Int) < 2147483647; decide), ?_⟩⟩
      generalize hn : (m1 * m1 + (t + 1) * 17) % 2147483647 = m2
      have hn0 : 0 ≤ m2 ∧ m2 < 2147483647 := by rw [← hn]; omega
      refine ⟨_, rfl, _, rfl, s, _, rfl, DPut.k (k := Sum.inr "mixed") S2.1.hs (by show 4 < sizeLine; decide), ?_⟩
      rw [put_mixed]
      have S3 := put l m2 (t + 1) S.l0 hn0.1 (by omega) (by have := S.t0; omega) _ S2.2 (fun b hb => upd_ne hb)
      refine ⟨_, rfl, _, _, rfl, rfl, ⟨by decide, by decide⟩, .inl ⟨_, rfl, _, rfl, _, _, rfl, rfl, (by omega : (0 : Int) < n), ?_⟩⟩
      subst hn
      subst hm
      exact k _ _ (Int.emod_nonneg _ (by omega)) (Int.emod_lt_of_pos _ (by omega)) S3.2
    all_goals
      have S2 := put (l / n) m t (Int.ediv_nonneg S.l0 (by omega)) S.m0 S.m1 S.t0 H1 g (fun _ _ => rfl)
      refine ⟨_, rfl, _, rfl, _, _, rfl, _, _, rfl, rfl, (by rw [max1 h1]; exact ⟨by omega, by omega⟩), _, rfl, s, _, rfl, DPut.k (k := Sum.inr "left") S.hs sz, ?_⟩
      rw [put_left, max1 h1]
      refine ⟨_, rfl, .inl ⟨_, rfl, _, rfl, _, _, rfl, _, _, rfl, rfl, (by rw [max1 h1]; omega : (0 : Int) < if n > 1 then n else 1), ?_⟩⟩
      rw [max1 h1]
      exact k _ _ (Int.emod_nonneg _ (by omega)) (Int.emod_lt_of_pos _ (by omega)) S2.2
theorem ok_of (T : Tx K mg) : FnOk P w K mg base CX0 2 T.a_law_of T.fd_law_of ["_law_source_here", "_law_some"] (spOf K) := by
  refine T.F_law_of.ok sc_law_of (fun vs H Q E h => ?_) (fun cdv A outer st H vs Q E hr h => ?_)
  · obtain ⟨s, c, a, xs, rfl, _⟩ := h
    rfl
  obtain ⟨s, c, a, xs, rfl, hS, ha, nac, h1, h2, k⟩ := h
  have G_law_pick : FnOk P w K mg base CX0 1 T.a_law_pick T.fd_law_pick ["_law_source_here", "_law_many"] spPick := ok_pick T
  have hr_law_pick : Room 1 _ := hr
  refine ⟨_, ((pss_one (ps_ret (pe_ix ix_list (pv 1) (pe_call G_law_pick hr_law_pick rfl T.m_law_pick T.F_law_pick.kp T.b_law_pick .nil pass0 (pa_cons (pv 0) (pa_cons (pe_callB call_len_seq (by rfl) T.n_len (by decide +kernel) (pa_cons (pv 1) pa_nil)) pa_nil))) (fun _ _ => rfl))))), ?_⟩
  refine ⟨_, rfl, _, rfl, _, rfl, a, _, rfl, .inl (SqL.of ha), s, c, _, rfl, hS, by omega, by omega, fun i H' i0 i1 g => ?_⟩
  obtain ⟨j, rfl⟩ : ∃ j : Nat, i = (j : Int) := ⟨i.toNat, by omega⟩
  have hj : j < xs.length := by omega
  exact ⟨a, xs, _, xs[j], rfl, rfl, SqL.of (g.lst hS ha nac), atI_nat (List.getElem?_eq_getElem hj), k j _ H' (List.getElem?_eq_getElem hj) g⟩
theorem ok_source (T : Tx K mg) : FnOk P w K mg base CX0 1 T.a_law_source T.fd_law_source ["_law_script"] (spSource K) := by
  refine T.F_law_source.ok sc_law_source (fun vs H Q E h => ?_) (fun cdv A outer st H vs Q E hr h => ?_)
  · obtain ⟨a, ns, rfl, _⟩ := h
    rfl
  obtain ⟨a, ns, rfl, hS, hl, k⟩ := h
  refine ⟨_, ((pss_cons (ps_set (i := 1) sc_law_source.nd rfl (Or.inl rfl) pe_int)
      (pss_cons (ps_for PassesOwn.never rfl (pi_list (pv 0)) (pg_name (i := 2) sc_law_source.nd rfl (Or.inl rfl))
        (pss_one (ps_set (i := 1) sc_law_source.nd rfl (Or.inl rfl) (pe_op op_mod (pe_callTy call_int1 (by rfl) T.n_int (by decide +kernel) (pa_cons (pe_op op_add (pe_op op_add (pe_op op_mul (pv 1) pe_int) (pe_op op_mul (pv 2) pe_int)) pe_int) pa_nil)) pe_int))))
      (pss_one (ps_ret (pe_disp (pps_cons pe_str (pe_revL (pe_lc (own := [("_law_cell", 2)]) (by rfl) sc_law_source.nd (pi_list (pv 0)) (blkOk_by (own := [("_law_cell", 2)]) (N := ["_law_script", "_law_mixed", "_law_cell"]) (sc := defScope s_law_source) (by decide +kernel)) (fun _ _ _ _ _ => pg_name (i := 2) sc_law_source.nd rfl (Or.inl rfl)) (fun _ _ _ _ _ => pts_nil) (fun _ _ _ _ _ => (pe_callB call_abs (by rfl) T.n_abs (by decide +kernel) (pa_cons (pv 2) pa_nil))))) (pps_cons pe_str pe_int (pps_cons pe_str (pv 1) (pps_cons pe_str pe_int pps_nil)))) (by rfl) (by rfl) (fun z => by cases z) (by decide))))))), ?_⟩
  refine ⟨_, rfl, a, rfl, ⟨_, hS⟩, for_list (K := K) (a := a) (xs := ns.map V.int) (fun i σ H' => ∃ (m : Int) (v : Option V), σ = [some (.ref a), some (.int m), v] ∧ H' = H ∧ 0 ≤ m ∧ m < 2147483629) ⟨11, none, rfl, rfl, by decide, by decide⟩ (fun i σ H' _ ⟨_, _, _, e, _⟩ => e ▸ hS) ?_ ?_⟩
  · rintro i y σ H' hi ⟨m, v, rfl, rfl, m0, m1⟩
    obtain ⟨u, rfl⟩ : ∃ u, y = V.int u := by
      rw [List.getElem?_map] at hi
      cases e : ns[i]? with
      | none => rw [e] at hi; cases hi
      | some u => rw [e] at hi; exact ⟨u, (Option.some.inj hi).symm⟩
    refine ⟨_, rfl, _, _, rfl, rfl, .inr ⟨by decide, by decide⟩, _, rfl, _, _, rfl, rfl, .inr ⟨by decide, by decide⟩, _, _, rfl, rfl, _, _, rfl, rfl, .inl ⟨_, rfl, _, _, rfl, rfl, (by show (0 : Int) < 2147483629; decide), ?_⟩⟩
    exact ⟨_, _, rfl, rfl, Int.emod_nonneg _ (by decide), Int.emod_lt_of_pos _ (by decide)⟩
  · rintro σ H' ⟨m, v, rfl, rfl, m0, m1⟩
    intro p hp
    have s0 := same_new hp (.dK [])
    refine ⟨_, rfl, a, rfl, ⟨_, s0.seq hS⟩, fun D hD => ?_⟩
    have npD : p ≠ D := ne_of_none upd_same hD
    refine lc_list (K := K) (a := a) (xs := ns.map V.int) (fun i H2 => Same (upd H' p (.dK [])) H2 ∧ H2 D = some (.lst (((ns.take i).map fun n => if n < 0 then -n else n).map V.int))) ⟨same_new hD _, upd_same⟩ (fun i H2 _ z => z.1.seq (s0.seq hS)) ?_ ?_
    · rintro i y H2 hi ⟨s1, e1⟩
      have hil : i < ns.length := by
        have q := (List.getElem?_eq_some_iff.mp hi).1
        rw [List.length_map] at q
        exact q
      have ey : y = V.int ns[i] := by
        rw [List.getElem?_map, List.getElem?_eq_getElem hil] at hi
        exact (Option.some.inj hi).symm
      subst ey
      refine ⟨rfl, ?_⟩
      refine ⟨_, rfl, _, rfl, _, e1, ?_, ?_, ?_⟩
      · rw [List.length_map, List.length_map, List.length_take]
        exact small1000 (by omega)
      · intro b o e
        rw [upd_ne (ne_of_none e hD)]
        exact s1 b o e
      · rw [upd_same, List.take_succ_eq_append_getElem hil, List.map_append, List.map_append]
        rfl
    · rintro H2 ⟨s1, e1⟩
      refine ⟨D, _, rfl, SqL.of e1, fun c hc => ?_⟩
      have ncp : p ≠ c := ne_of_none (s1 _ _ upd_same) hc
      refine ⟨_, rfl, ?_⟩
      have ep : upd H2 c (.lst ((((ns.take (ns.map V.int).length).map fun n => if n < 0 then -n else n).map V.int).reverse)) p = some (.dK []) := by
        rw [upd_ne ncp]
        exact s1 _ _ upd_same
      refine ⟨ep, srcD c 1 m 0, rfl, (by show 4 ≤ 15; decide), ?_⟩
      rw [srcD_made]
      refine k p c _ ?_ hp ?_ ?_
      · intro b o e
        have nbp : b ≠ p := ne_of_none e hp
        have e2 := s1 b o (by rw [upd_ne nbp]; exact e)
        rw [upd_ne nbp, upd_ne (ne_of_none e2 hc)]
        exact e2
      · exact s0.free (s1.free hc)
      · refine ⟨1, m, 0, ((ns.take (ns.map V.int).length).map fun n => if n < 0 then -n else n).reverse, upd_same, ?_, by decide, m0, by omega, by decide, ?_, ?_⟩
        · rw [upd_ne ncp.symm, upd_same, List.map_reverse]
        · intro n hn
          rw [List.mem_reverse, List.mem_map] at hn
          obtain ⟨q, _, rfl⟩ := hn
          split <;> omega
        · rw [List.length_reverse, List.length_map, List.length_take]
          omega
end
end My
namespace My
open PySem PySem.Spec PyProof.Rows L2
/-! ### drawn names -/
def spNames : Sp := fun vs H Q _ => ∃ (s c : Addr) (n : Nat), vs = [.ref s, .int (n : Nat)] ∧ Src H s c ∧ n ≤ 10 ∧
  ∀ (a : Addr) (xs : List Str) (H' : Hp), Go s c H H' → H a = none → H' a = some (.lst (xs.map V.str)) → (∀ x ∈ xs, wordD (.str x) = true) → xs.length = n → Q (.ref a) H'
theorem Src.upd6 {M : Hp} {s c D : Addr} {o : HO} (S : Src M s c) (n : D ≠ s ∧ D ≠ c) : Src (L2.upd M D o) s c := by
  obtain ⟨l, m, t, ns, h⟩ := S
  exact ⟨l, m, t, ns, by rw [upd_ne n.1.symm]; exact h.hs, by rw [upd_ne n.2.symm]; exact h.hc, h.l0, h.m0, h.m1, h.t0, h.n0, h.len⟩
/-- the last two figures of 100 + m -/
def twoS (m : Int) : Str := cutS (toString (100 + m)) (some 1) none
theorem two_ok (m : Int) (h0 : 0 ≤ m) (h1 : m < 100) : (twoS m).length = 2 ∧ (twoS m).cps.toList.all isAl = true ∧ (toString (100 + m) : Str).length ≤ 100 ∧ (100 + m).natAbs.log2 < 1920 := by
  have q : ∀ k ∈ List.range 100, (twoS (k : Nat)).length = 2 ∧ (twoS (k : Nat)).cps.toList.all isAl = true ∧ (toString (100 + ((k : Nat) : Int)) : Str).length ≤ 100 ∧ (100 + ((k : Nat) : Int)).natAbs.log2 < 1920 := by decide +kernel
  obtain ⟨k, rfl⟩ : ∃ k : Nat, m = (k : Int) := ⟨m.toNat, by omega⟩
  exact q k (List.mem_range.mpr (by omega))
def tailsV : List V := [.str "", .str "", .str "", .str "k", .str "kkkkkkkkk"]
theorem tails_ok {v : V} (h : v ∈ tailsV) : ∃ t : Str, v = .str t ∧ t.length ≤ 9 ∧ t.cps.toList.all isAl = true := by
  simp only [tailsV, List.mem_cons, List.not_mem_nil, or_false] at h
  rcases h with rfl | rfl | rfl | rfl | rfl <;> exact ⟨_, rfl, by decide +kernel, by decide +kernel⟩
theorem len_app (a b : Str) : (a ++ b).length = a.length + b.length := by
  show (a.cps ++ b.cps).size = a.cps.size + b.cps.size
  rw [Array.size_append]
theorem name_ok {c : Nat} {d t : Str} (hc : inS LTR c = true) (d2 : d.length = 2) (da : d.cps.toList.all isAl = true) (t9 : t.length ≤ 9) (ta : t.cps.toList.all isAl = true) : wordD (.str ((⟨#[c]⟩ : Str) ++ d ++ t)) = true := by
  have e : ((⟨#[c]⟩ : Str) ++ d ++ t).cps.toList = c :: (d.cps.toList ++ t.cps.toList) := by
    show (#[c] ++ d.cps ++ t.cps).toList = _
    simp
  have l : ((⟨#[c]⟩ : Str) ++ d ++ t).length ≤ 12 := by
    rw [len_app, len_app, d2]
    show 1 + 2 + t.length ≤ 12
    omega
  have al : isAl c = true := by unfold isAl; rw [hc]; rfl
  show (decide (((⟨#[c]⟩ : Str) ++ d ++ t).length ≤ 12) && (match ((⟨#[c]⟩ : Str) ++ d ++ t).cps.toList with
    | [] => false
    | c :: r => inS LTR c && (c :: r).all isAl)) = true
  rw [decide_eq_true l, e]
  show (true && (inS LTR c && (c :: (d.cps.toList ++ t.cps.toList)).all isAl)) = true
  rw [hc, List.all_cons, al, List.all_append, da, ta]
  rfl
section
variable {P : Program} {w : World} {K : PySem.W.Frag} {mg : Str → Option Value} {base : Heap}
theorem ok_names (T : Tx K mg) : FnOk P w K mg base CX0 2 T.a_law_names T.fd_law_names ["_law_source_here", "_law_many"] spNames := by
  refine T.F_law_names.ok sc_law_names (fun vs H Q E h => ?_) (fun cdv A outer st H vs Q E hr h => ?_)
  · obtain ⟨s, c, n, rfl, _⟩ := h
    rfl
  obtain ⟨s, c, n, rfl, hS, hn, k⟩ := h
  have G_law_pick : FnOk P w K mg base CX0 1 T.a_law_pick T.fd_law_pick ["_law_source_here", "_law_many"] spPick := ok_pick T
  have hr_law_pick : Room 1 _ := hr
  refine ⟨_, ((pss_cons (ps_par3 (i := 2) (j := 3) (l := 4) (by rfl) sc_law_names.nd rfl rfl rfl (by decide) (by decide) (by decide) rfl rfl rfl (pa_cons (pe_call G_law_pick hr_law_pick rfl T.m_law_pick T.F_law_pick.kp T.b_law_pick .nil pass0 (pa_cons (pv 0) (pa_cons pe_int pa_nil))) (pa_cons (pe_lst pa_nil) (pa_cons (pe_lst (pa_cons pe_str (pa_cons pe_str (pa_cons pe_str (pa_cons pe_str (pa_cons pe_str pa_nil)))))) pa_nil))) (by rfl))
      (pss_cons (ps_for PassesOwn.never rfl (pi_range1 rfl T.n_range (pa_cons (pv 1) pa_nil)) (pg_name (i := 5) sc_law_names.nd rfl (Or.inl rfl))
        (pss_cons (ps_set (i := 6) sc_law_names.nd rfl (Or.inl rfl) (pe_ix ix_str pe_str (pe_call G_law_pick hr_law_pick rfl T.m_law_pick T.F_law_pick.kp T.b_law_pick .nil pass0 (pa_cons (pv 0) (pa_cons pe_int pa_nil))) (fun _ _ => rfl)))
      (pss_one (ps_expr (pe_bm PySem.F.plainAttrs_list PySem.F.slot_list_append PySem.F.type_list_append mt_append (pv 3) (pa_cons (pe_op op_add_str (pe_op op_add_str (pv 6) (pe_slice sl_str (pe_callTy call_str_int (by rfl) T.n_str (by decide +kernel) (pa_cons (pe_op op_add pe_int (pe_op op_mod (pe_callTy call_int1 (by rfl) T.n_int (by decide +kernel) (pa_cons (pe_op op_add (pv 2) (pe_op op_mul pe_int (pv 5))) pa_nil)) pe_int)) pa_nil)) (po_some pe_int) po_none)) (pe_ix ix_list (pv 4) (pe_call G_law_pick hr_law_pick rfl T.m_law_pick T.F_law_pick.kp T.b_law_pick .nil pass0 (pa_cons (pv 0) (pa_cons pe_int pa_nil))) (fun _ _ => rfl))) pa_nil))))))
      (pss_one (ps_ret (pv 3)))))), ?_⟩
  refine ⟨_, rfl, s, c, 100, rfl, hS, by decide, by decide, fun sh H1 sh0 sh1 g1 => ⟨Nat.zero_le _, fun D hD => ⟨(by show 5 ≤ sizeLine; decide), fun tl htl => ⟨_, _, _, rfl, ?_⟩⟩⟩⟩
  have nD := g1.src.ne_none hD
  have s2 := same_new hD (.lst [])
  have nT := (g1.src.same s2).ne_none htl
  have s3 := same_new htl (.lst tailsV)
  have nDT : D ≠ tl := ne_of_none upd_same htl
  have g3 : Go s c H1 _ := Go.of g1.src (s2.trans s3)
  refine ⟨_, rfl, n, rfl, by omega, by omega, ?_⟩
  refine for_range (lo := 0) (n := n) (fun i σ M => ∃ (xs : List Str) (v5 v6 : Option V), σ = [some (.ref s), some (.int (n : Nat)), some (.int sh), some (.ref D), some (.ref tl), v5, v6] ∧ Src M s c ∧ (∀ b u, b ≠ s → b ≠ c → H b = some u → M b = some u) ∧
    M D = some (.lst (xs.map V.str)) ∧ M tl = some (.lst tailsV) ∧ (∀ x ∈ xs, wordD (.str x) = true) ∧ xs.length = i) ?_ ?_ ?_
  · refine ⟨[], none, none, rfl, g3.src, fun b u n1 n2 q => ?_, s3 _ _ upd_same, upd_same, (fun _ h => nomatch h), rfl⟩
    exact (s2.trans s3) _ _ (g1.keep _ _ n1 n2 q)
  · rintro i σ M hi ⟨xs, v5, v6, rfl, S, old, eD, eT, ok, lx⟩
    refine ⟨_, rfl, s, c, 26, rfl, S, by decide, by decide, fun j M1 j0 j1 ga => ?_⟩
    have l26 : LTR.cps.toList.length = 26 := by decide +kernel
    have hj : j.toNat < LTR.cps.toList.length := by rw [l26]; omega
    have ej : ((j.toNat : Nat) : Int) = j := by omega
    have ea : atI LTR.cps.toList j = some (LTR.cps.toList[j.toNat]) := by
      have q := atI_nat (List.getElem?_eq_getElem hj)
      rw [ej] at q
      exact q
    have al : inS LTR (LTR.cps.toList[j.toNat]) = true := decide_eq_true (List.getElem_mem _)
    generalize LTR.cps.toList[j.toNat] = lc at ea al
    refine ⟨LTR, _, _, rfl, rfl, (by show 26 ≤ sizeLine; decide), ea, ?_⟩
    have eD1 := ga.lst S eD nD.2
    have eT1 := ga.lst S eT nT.2
    have m0 : 0 ≤ (sh + 37 * (0 + (i : Int))) % 100 := Int.emod_nonneg _ (by decide)
    have m1 : (sh + 37 * (0 + (i : Int))) % 100 < 100 := Int.emod_lt_of_pos _ (by decide)
    have ⟨w2, wa, wl, wg⟩ := two_ok _ m0 m1
    refine ⟨_, rfl, .inl ⟨rfl, _, SqL.of eD1⟩, _, rfl, _, rfl, _, rfl, _, _, rfl, rfl, .inl ⟨by omega, by omega⟩, _, _, rfl, rfl, .inl ⟨_, rfl, _, _, rfl, rfl, (by show (0 : Int) < 100; decide), _, _, rfl, rfl, _, rfl, wg, _, rfl, _, rfl, sz6 (by omega), ?_⟩⟩
    have w2' : (cutS (toString (100 + (sh + 37 * (0 + (i : Int))) % 100)) (some 1) none).length = 2 := w2
    refine ⟨_, _, rfl, rfl, by rw [w2']; exact sz6 (by show 1 + 2 ≤ _; decide), _, rfl, _, rfl, s, c, 5, rfl, ga.src, by decide, by decide, fun j2 M2 q0 q1 gb => ?_⟩
    have eD2 := gb.lst ga.src eD1 nD.2
    have eT2 := gb.lst ga.src eT1 nT.2
    have hj2 : j2.toNat < tailsV.length := by show j2.toNat < 5; omega
    have ej2 : ((j2.toNat : Nat) : Int) = j2 := by omega
    have at2 : atI tailsV j2 = some (tailsV[j2.toNat]) := by
      have q := atI_nat (List.getElem?_eq_getElem hj2)
      rw [ej2] at q
      exact q
    obtain ⟨t, et, t9, ta⟩ := tails_ok (List.getElem_mem hj2)
    rw [et] at at2
    have ok1 := name_ok al w2 wa t9 ta
    refine ⟨tl, _, _, _, rfl, rfl, SqL.of eT2, at2, _, _, rfl, rfl, ?_, D, _, _, rfl, rfl, eD2, ?_, ?_⟩
    · rw [len_app, w2']; exact sz6 (by show 1 + 2 + t.length ≤ _; omega)
    · rw [List.length_map, lx]; exact small1000 (by omega)
    refine ⟨xs ++ [(⟨#[lc]⟩ : Str) ++ twoS ((sh + 37 * (0 + (i : Int))) % 100) ++ t], _, _, rfl, gb.src.upd6 nD, fun b u n1 n2 q => ?_, ?_, ?_, ?_, ?_⟩
    · rw [upd_ne (ne_of_none q (g1.free hD))]
      exact gb.keep _ _ n1 n2 (ga.keep _ _ n1 n2 (old b u n1 n2 q))
    · rw [upd_same, List.map_append]; rfl
    · rw [upd_ne nDT.symm]; exact eT2
    · intro x hx
      rcases List.mem_append.mp hx with h | h
      · exact ok x h
      · rw [List.mem_singleton.mp h]; exact ok1
    · rw [List.length_append, lx]; rfl
  · rintro σ M ⟨xs, v5, v6, rfl, S, old, eD, eT, ok, lx⟩
    exact ⟨_, rfl, k D xs M ⟨fun a o n1 n2 q => old a o n1 n2 q, S⟩ (g1.free hD) eD ok lx⟩
end
end My
namespace My
open PySem PySem.Spec PyProof.Rows L2
/-! ### drawn trees -/
/-- the heap without the source of draws -/
def cutH (s c : Addr) (H : Hp) : Hp := fun b => if b = s ∨ b = c then none else H b
theorem cut_at' {s c b : Addr} {H : Hp} {u : HO} (h : cutH s c H b = some u) : b ≠ s ∧ b ≠ c ∧ H b = some u := by
  unfold cutH at h
  by_cases e : b = s ∨ b = c
  · rw [if_pos e] at h; cases h
  · rw [if_neg e] at h
    exact ⟨fun z => e (.inl z), fun z => e (.inr z), h⟩
theorem cut_in {s c b : Addr} {H : Hp} {u : HO} (n : b ≠ s ∧ b ≠ c) (h : H b = some u) : cutH s c H b = some u := by
  unfold cutH
  rw [if_neg (fun z => z.elim n.1 n.2)]
  exact h
theorem cut_same {s c : Addr} {H : Hp} : Same (cutH s c H) H := fun _ _ h => (cut_at' h).2.2
theorem cut_go {s c : Addr} {H H' : Hp} (g : Go s c H H') : Same (cutH s c H) (cutH s c H') := fun b u h => by
  have ⟨n1, n2, e⟩ := cut_at' h
  exact cut_in ⟨n1, n2⟩ (g.keep b u n1 n2 e)
theorem cut_of {s c : Addr} {H H' : Hp} (g : Same H H') : Same (cutH s c H) (cutH s c H') := fun b u h => by
  have ⟨n1, n2, e⟩ := cut_at' h
  exact cut_in ⟨n1, n2⟩ (g b u e)
/-- a good tree -/
def goodF : Nat → PyData → Prop
  | 0, _ => False
  | n + 1, d => wordD d = true ∨ (forkD d = true ∧ goodF n (nthD d 0) ∧ goodF n (nthD d 1) ∧ (noneD (nthD d 2) = true ∨ wordD (nthD d 2) = true))
theorem word_str {d : PyData} (h : wordD d = true) : ∃ x, d = .str x ∧ x.length ≤ 12 ∧ x.cps.toList.all isAl = true := by
  cases d with
  | str x =>
    have h : (decide (x.length ≤ 12) && (match x.cps.toList with
      | [] => false
      | c :: r => inS LTR c && (c :: r).all isAl)) = true := h
    rw [Bool.and_eq_true, decide_eq_true_iff] at h
    refine ⟨x, rfl, h.1, ?_⟩
    have h2 := h.2
    cases e : x.cps.toList with
    | nil => rfl
    | cons c r =>
      rw [e] at h2
      have h2 : (inS LTR c && (c :: r).all isAl) = true := h2
      exact (Bool.and_eq_true_iff.mp h2).2
  | none => cases h
  | bool _ => cases h
  | int _ => cases h
  | list _ => cases h
  | tuple _ => cases h
  | dict _ => cases h
theorem al_small {c : Nat} (h : isAl c = true) : c < 128 := by
  unfold isAl at h
  rw [← in_cat] at h
  have q : (LTR ++ DIG).cps.toList.all (fun c => decide (c < 128)) = true := by decide +kernel
  exact of_decide_eq_true ((List.all_eq_true.mp q) c (of_decide_eq_true h))
theorem word_fit {d : PyData} (h : wordD d = true) : ∀ x, d = .str x → x.length ≤ 100000 ∧ PyData.strOk x = true := by
  intro x e
  obtain ⟨y, e', l, al⟩ := word_str h
  rw [e] at e'
  have e2 := PyData.str.inj e'
  rw [← e2] at l al
  refine ⟨by omega, ?_⟩
  show x.cps.all (fun c => decide (c < 0x110000)) = true
  rw [← Array.all_toList, List.all_eq_true]
  intro c hc
  exact decide_eq_true (Nat.lt_trans (al_small ((List.all_eq_true.mp al) c hc)) (by decide))
theorem none_fit {d : PyData} (h : noneD d = true) : ∀ x, d = .str x → x.length ≤ 100000 ∧ PyData.strOk x = true := by
  intro x e
  rw [e] at h
  cases h
theorem word_no_fork {d : PyData} (h : wordD d = true) : forkD d = false := by
  obtain ⟨x, e, _⟩ := word_str h
  rw [e]; rfl
theorem goodF_all : ∀ (n : Nat) (d : PyData), goodF n d → fitF n d ∧ treeF n d ∧ wrongF n d = none
  | 0, _, h => h.elim
  | n + 1, d, h => by
    rcases h with h | ⟨hf, h0, h1, h2⟩
    · refine ⟨⟨word_fit h, fun z => ?_⟩, ?_, wrongF_word h⟩
      · rw [word_no_fork h] at z; cases z
      · obtain ⟨x, e, _⟩ := word_str h
        exact .inl ⟨x, e⟩
    · have ⟨a0, b0, c0⟩ := goodF_all n _ h0
      have ⟨a1, b1, c1⟩ := goodF_all n _ h1
      refine ⟨⟨fun x e => ?_, fun _ => ⟨a0, a1, h2.elim none_fit word_fit⟩⟩, .inr ⟨hf, b0, b1⟩, ?_⟩
      · rw [e] at hf; cases hf
      · rw [wrongF_fork hf, c0, c1]
        exact if_pos h2
def spDrawn (n : Nat) : Sp := fun vs H Q _ => ∃ (s c : Addr) (r : Nat), vs = [.ref s, .int (r : Nat)] ∧ Src H s c ∧ r + 1 = n ∧ r ≤ 10 ∧
  ∀ (v : V) (d : PyData) (H' : Hp), Go s c H H' → Dq (cutH s c H') v d → goodF n d → Q v H'
section
variable {P : Program} {w : World} {K : PySem.W.Frag} {mg : Str → Option Value} {base : Heap}
theorem ok_drawn_tree (T : Tx K mg) : ∀ n, FnOk P w K mg base CX0 (n + 3) T.a_law_drawn_tree T.fd_law_drawn_tree ["_law_source_here", "_law_room"] (spDrawn n)
  | 0 => by
    refine T.F_law_drawn_tree.ok sc_law_drawn_tree (fun vs H Q E h => ?_) (fun cdv A outer st H vs Q E hr h => ?_)
    · obtain ⟨s, c, r, rfl, _⟩ := h
      rfl
    · obtain ⟨s, c, r, _, _, e, _⟩ := h
      exact absurd e (by omega)
  | n + 1 => by
    refine T.F_law_drawn_tree.ok sc_law_drawn_tree (fun vs H Q E h => ?_) (fun cdv A outer st H vs Q E hr h => ?_)
    · obtain ⟨s, c, r, rfl, _⟩ := h
      rfl
    obtain ⟨s, c, r, rfl, hS, er, r10, k⟩ := h
    have G_law_drawn_tree : FnOk P w K mg base CX0 (n + 3) T.a_law_drawn_tree T.fd_law_drawn_tree ["_law_source_here", "_law_room"] (spDrawn n) := ok_drawn_tree T n
    have hr_law_drawn_tree : Room (n + 3) _ := hr
    have G_law_names : FnOk P w K mg base CX0 2 T.a_law_names T.fd_law_names ["_law_source_here", "_law_many"] spNames := ok_names T
    have hr_law_names : Room 2 _ := hr.mono (by omega)
    have G_law_pick : FnOk P w K mg base CX0 1 T.a_law_pick T.fd_law_pick ["_law_source_here", "_law_many"] spPick := ok_pick T
    have hr_law_pick : Room 1 _ := hr.mono (by omega)
    have G_law_of : FnOk P w K mg base CX0 2 T.a_law_of T.fd_law_of ["_law_source_here", "_law_some"] (spOf K) := ok_of T
    have hr_law_of : Room 2 _ := hr.mono (by omega)
    refine ⟨_, ((pss_cons (ps_set (i := 2) sc_law_drawn_tree.nd rfl (Or.inl rfl) (pe_op op_cat (pe_lst (pa_cons pe_str (pa_cons pe_str (pa_cons pe_str pa_nil)))) (pe_call G_law_names hr_law_names rfl T.m_law_names T.F_law_names.kp T.b_law_names .nil pass0 (pa_cons (pv 0) (pa_cons pe_int pa_nil)))))
      (pss_cons (ps_if (PW.pt (pw_or (pt_cmpR op_lt (pv 1) pe_int (nomark _)) (pw_or1 (pt_cmpR op_eq (pe_call G_law_pick hr_law_pick rfl T.m_law_pick T.F_law_pick.kp T.b_law_pick .nil pass0 (pa_cons (pv 0) (pa_cons pe_int pa_nil))) pe_int (nomark _)))))
        (pss_one (ps_ret (pe_call G_law_of hr_law_of rfl T.m_law_of T.F_law_of.kp T.b_law_of .nil pass0 (pa_cons (pv 0) (pa_cons (pv 2) pa_nil)))))
        pss_nil)
      (pss_cons (ps_par (i := 3) (j := 4) (by rfl) sc_law_drawn_tree.nd rfl rfl (by decide) rfl rfl (pa_cons (pe_call G_law_drawn_tree hr_law_drawn_tree rfl T.m_law_drawn_tree T.F_law_drawn_tree.kp T.b_law_drawn_tree .nil pass0 (pa_cons (pv 0) (pa_cons (pe_op op_sub (pv 1) pe_int) pa_nil))) (pa_cons (pe_call G_law_drawn_tree hr_law_drawn_tree rfl T.m_law_drawn_tree T.F_law_drawn_tree.kp T.b_law_drawn_tree .nil pass0 (pa_cons (pv 0) (pa_cons (pe_op op_sub (pv 1) pe_int) pa_nil))) pa_nil)) (by rfl))
      (pss_one (ps_ret (pe_tup (pa_cons (pv 3) (pa_cons (pv 4) (pa_cons (pe_call G_law_of hr_law_of rfl T.m_law_of T.F_law_of.kp T.b_law_of .nil pass0 (pa_cons (pv 0) (pa_cons (pe_op op_cat (pe_lst (pa_cons pe_non pa_nil)) (pv 2)) pa_nil))) pa_nil)))))))))), ?_⟩
    refine ⟨(by show 3 ≤ sizeLine; decide), fun p0 h0 => ?_⟩
    have s0 := same_new h0 (.lst [.str "a", .str "b", .str "c"])
    have n0 := hS.ne_none h0
    refine ⟨_, rfl, s, c, 3, rfl, hS.same s0, by decide, fun b xs H1 g1 hb eb okx lx => ?_⟩
    have e0 := g1.lst (hS.same s0) (upd_same (H := H) (a := p0) (o := .lst [.str "a", .str "b", .str "c"])) n0.2
    refine ⟨p0, b, _, _, rfl, rfl, e0, eb, ?_, fun pn hpn => ?_⟩
    · rw [List.length_map, lx]; decide
    have nn := g1.src.ne_none hpn
    have sN := same_new hpn (.lst ([.str "a", .str "b", .str "c"] ++ xs.map V.str))
    have gN : Go s c H _ := ((Go.of hS s0).trans g1).then sN
    have abc : ∀ v ∈ ([.str "a", .str "b", .str "c"] ++ xs.map V.str : List V), ∃ x, v = .str x ∧ wordD (.str x) = true := fun v hv => by
      rcases List.mem_append.mp hv with h | h
      · simp only [List.mem_cons, List.not_mem_nil, or_false] at h
        rcases h with rfl | rfl | rfl <;> exact ⟨_, rfl, by decide +kernel⟩
      · obtain ⟨x, hx, rfl⟩ := List.mem_map.mp h
        exact ⟨x, rfl, okx x hx⟩
    have lN : ([.str "a", .str "b", .str "c"] ++ xs.map V.str : List V).length = 6 := by rw [List.length_append, List.length_map, lx]; rfl
    have leaf : ∀ M, Go s c H M → M pn = some (.lst ([.str "a", .str "b", .str "c"] ++ xs.map V.str)) → spOf K [.ref s, .ref pn] M Q (fun _ _ _ => False) := fun M gM eM => by
      refine ⟨s, c, pn, _, rfl, gM.src, eM, nn.2, by omega, by omega, fun i x H' hx g => ?_⟩
      obtain ⟨y, rfl, hy⟩ := abc x (List.mem_of_getElem? hx)
      exact k _ (.str y) H' (gM.trans g) (.str y) (.inl hy)
    have eN : (L2.upd H1 pn (.lst ([.str "a", .str "b", .str "c"] ++ xs.map V.str))) pn = some (.lst ([.str "a", .str "b", .str "c"] ++ xs.map V.str)) := upd_same
    generalize L2.upd H1 pn (.lst ([.str "a", .str "b", .str "c"] ++ xs.map V.str)) = MN at gN eN ⊢
    refine ⟨_, rfl, _, _, rfl, rfl, _, rfl, iteD (fun hlt => ?_) (fun hge => ?_)⟩
    · exact ⟨_, rfl, _, rfl, leaf MN gN eN⟩
    · refine ⟨_, rfl, s, c, 4, rfl, gN.src, by decide, by decide, fun i M i0 i4 g => ⟨rfl, _, rfl, iteD (fun _ => ?_) (fun _ => ?_)⟩⟩
      · exact ⟨_, rfl, _, rfl, leaf M (gN.trans g) (g.lst gN.src eN nn.2)⟩
      have r1 : 1 ≤ r := by omega
      have er1 : ((r : Int) - 1) = ((r - 1 : Nat) : Int) := by omega
      have gM := gN.trans g
      have eM := g.lst gN.src eN nn.2
      refine ⟨_, rfl, _, rfl, _, _, rfl, rfl, s, c, r - 1, ?_, gM.src, by omega, by omega, fun v1 d1 M1 ga dq1 gd1 => ?_⟩
      · show [V.ref s, V.int ((r : Int) - 1)] = _
        rw [er1]
      refine ⟨_, rfl, _, rfl, _, _, rfl, rfl, s, c, r - 1, ?_, ga.src, by omega, by omega, fun v2 d2 M2 gb dq2 gd2 => ⟨_, _, rfl, ?_⟩⟩
      · show [V.ref s, V.int ((r : Int) - 1)] = _
        rw [er1]
      have gab := ga.trans gb
      have eM2 := gab.lst gM.src eM nn.2
      refine ⟨_, rfl, _, rfl, _, rfl, (by show 1 ≤ sizeLine; decide), fun p1 h1 => ⟨_, rfl, p1, pn, _, _, rfl, rfl, upd_same, same_new h1 _ _ _ eM2, ?_, fun p2 h2 => ?_⟩⟩
      · show 1 + _ ≤ _; rw [lN]; decide
      have t1 := same_new h1 (.lst [.non])
      have t2 := same_new h2 (.lst ([.non] ++ ([.str "a", .str "b", .str "c"] ++ xs.map V.str)))
      have n2 := (gab.src.same t1).ne_none h2
      refine ⟨s, c, p2, _, rfl, (gab.src.same t1).same t2, upd_same, n2.2, ?_, ?_, fun i x M3 hx g3 => ?_⟩
      · rw [List.length_append, lN]; decide
      · rw [List.length_append, lN]; decide
      have gall : Go s c M2 M3 := (Go.of gab.src (t1.trans t2)).trans g3
      have third : ∃ d3, Dq (cutH s c M3) x d3 ∧ (noneD d3 = true ∨ wordD d3 = true) := by
        rcases List.mem_append.mp (List.mem_of_getElem? hx) with h | h
        · rw [List.mem_singleton.mp h]
          exact ⟨_, .non, .inl rfl⟩
        · obtain ⟨y, rfl, hy⟩ := abc x h
          exact ⟨_, .str y, .inr hy⟩
      obtain ⟨d3, dq3, ok3⟩ := third
      refine ⟨(by show 3 ≤ sizeLine; decide), fun p3 h3 => ?_⟩
      have n3 := gall.src.ne_none h3
      have t3 := same_new h3 (.tup [v1, v2, x])
      have c3 := cut_of (s := s) (c := c) t3
      refine k (.ref p3) (.tuple [d1, d2, d3]) _ (((gM.trans gab).trans gall).then t3) (.tup (cut_in n3 upd_same) ?_) (.inr ⟨rfl, gd1, gd2, ok3⟩)
      exact .cons (dq1.same ((cut_go (gb.trans gall)).trans c3)) (.cons (dq2.same ((cut_go gall).trans c3)) (.cons (dq3.same c3) .nil))
end
end My
namespace My
open PySem PySem.Spec PyProof.Rows L2
/-! ### data that is short when it is shown -/
structure Sm (k b : Nat) (d : PyData) : Prop where
  sh : d.showable = true
  dp : d.depth ≤ k
  lf : d.leavesShort 40 = true
  bk : d.bulk ≤ b
structure SmA (k b : Nat) (ds : List PyData) : Prop where
  sh : PyData.showableAll ds = true
  dp : PyData.depthAll ds ≤ k
  lf : PyData.leavesShortAll 40 ds = true
  bk : PyData.bulkAll ds ≤ b
theorem Sm.up {k b k' b' : Nat} {d : PyData} (h : Sm k b d) (hk : k ≤ k') (hb : b ≤ b') : Sm k' b' d := ⟨h.sh, Nat.le_trans h.dp hk, h.lf, Nat.le_trans h.bk hb⟩
theorem SmA.nil {k b : Nat} : SmA k b [] := ⟨rfl, Nat.zero_le _, rfl, Nat.zero_le _⟩
theorem SmA.cons {k b m : Nat} {d : PyData} {ds : List PyData} (h : Sm k b d) (t : SmA k m ds) : SmA k (b + 1 + m) (d :: ds) := by
  refine ⟨?_, ?_, ?_, ?_⟩
  · show (d.showable && PyData.showableAll ds) = true
    rw [h.sh, t.sh]; rfl
  · show max d.depth (PyData.depthAll ds) ≤ k
    exact Nat.max_le.mpr ⟨h.dp, t.dp⟩
  · show (d.leavesShort 40 && PyData.leavesShortAll 40 ds) = true
    rw [h.lf, t.lf]; rfl
  · show d.bulk + 1 + PyData.bulkAll ds ≤ b + 1 + m
    have := h.bk
    have := t.bk
    omega
theorem SmA.up {k b b' : Nat} {ds : List PyData} (h : SmA k b ds) (hb : b ≤ b') : SmA k b' ds := ⟨h.sh, h.dp, h.lf, Nat.le_trans h.bk hb⟩
theorem SmA.tuple {k b : Nat} {ds : List PyData} (h : SmA k b ds) : Sm (k + 1) b (.tuple ds) := ⟨h.sh, Nat.succ_le_succ h.dp, h.lf, h.bk⟩
theorem SmA.list {k b : Nat} {ds : List PyData} (h : SmA k b ds) : Sm (k + 1) b (.list ds) := ⟨h.sh, Nat.succ_le_succ h.dp, h.lf, h.bk⟩
theorem Sm.non {k b : Nat} : Sm k b .none := ⟨rfl, Nat.zero_le _, rfl, Nat.zero_le _⟩
theorem Sm.str {k b : Nat} {x : Str} (h : PyData.strOk x = true) (l : x.length ≤ b) : Sm k b (.str x) := by
  refine ⟨rfl, Nat.zero_le _, ?_, l⟩
  have h : x.cps.all (fun c => decide (c < 0x110000)) = true := h
  rw [← Array.all_toList, List.all_eq_true] at h
  show x.cps.toList.all (fun c => decide (c < 16 ^ 8)) = true
  rw [List.all_eq_true]
  intro c hc
  exact decide_eq_true (Nat.lt_trans (of_decide_eq_true (h c hc)) (by decide))
theorem Sm.fits {k b : Nat} {d : PyData} (h : Sm k b d) (hb : b ≤ 300000) : d.shown.length ≤ sizeLine := by
  have q := PyData.shown_le_bulk 40 (by decide) d h.lf
  have := h.bk
  rw [sizeLine_eq]
  omega
/-- the bulk of trees by levels -/
def Bn (n : Nat) : Nat := 40 * 4 ^ n
theorem Bn_pos (n : Nat) : 40 ≤ Bn n := Nat.le_mul_of_pos_right 40 (Nat.pos_of_neZero (4 ^ n))
theorem Bn_succ (n : Nat) : Bn (n + 1) = 4 * Bn n := by unfold Bn; rw [Nat.pow_succ]; omega
theorem Bn_le {n m : Nat} (h : n ≤ m) : Bn n ≤ Bn m := Nat.mul_le_mul_left _ (Nat.pow_le_pow_right (by decide) h)
abbrev SmN (n : Nat) (d : PyData) : Prop := Sm (n + 2) (Bn n) d
theorem SmN.up {n m : Nat} {d : PyData} (h : SmN n d) (l : n ≤ m) : SmN m d := Sm.up h (by omega) (Bn_le l)
theorem sm_word {d : PyData} (h : wordD d = true) : Sm 0 12 d := by
  obtain ⟨x, e, l, _⟩ := word_str h
  have q := (word_fit h x e).2
  rw [e]
  exact .str q l
theorem sm_third {d : PyData} (h : noneD d = true ∨ wordD d = true) : Sm 0 12 d := by
  rcases h with h | h
  · cases d with
    | none => exact .non
    | bool _ => cases h
    | int _ => cases h
    | str _ => cases h
    | list _ => cases h
    | tuple _ => cases h
    | dict _ => cases h
  · exact sm_word h
theorem fork_is {d : PyData} (h : forkD d = true) : d = .tuple [nthD d 0, nthD d 1, nthD d 2] := by
  cases d with
  | tuple ds =>
    have l : ds.length = 3 := of_decide_eq_true h
    match ds, l with
    | [_, _, _], _ => rfl
  | none => cases h
  | bool _ => cases h
  | int _ => cases h
  | str _ => cases h
  | list _ => cases h
  | dict _ => cases h
theorem good_sm : ∀ (n : Nat) (d : PyData), goodF n d → SmN n d
  | 0, _, h => h.elim
  | n + 1, d, h => by
    rcases h with h | ⟨hf, h0, h1, h2⟩
    · exact (sm_word h).up (Nat.zero_le _) (Nat.le_trans (by decide) (Bn_pos _))
    · rw [fork_is hf]
      have a := good_sm n _ h0
      have b := good_sm n _ h1
      have q := (SmA.cons a (SmA.cons b (SmA.cons ((sm_third h2).up (Nat.zero_le (n + 2)) (Nat.le_refl 12)) (SmA.nil (b := 0))))).tuple
      refine Sm.up q (by omega) ?_
      have := Bn_pos n
      rw [Bn_succ]
      omega
end My
namespace My
open PySem PySem.Spec PyProof.Rows L2
/-! ### odd values -/
theorem forall_cons {α : Type} {p : α → Prop} {x : α} {xs : List α} (h : p x) (t : ∀ y ∈ xs, p y) : ∀ y ∈ x :: xs, p y := List.forall_mem_cons.mpr ⟨h, t⟩
theorem forall_nil {α : Type} {p : α → Prop} : ∀ y ∈ ([] : List α), p y := List.forall_mem_nil _
/-- a value that is no fork -/
def OddQ (s c : Addr) (H : Hp) (v : V) : Prop := ∃ d, Dq (cutH s c H) v d ∧ forkD d = false ∧ (∀ x, d = .str x → x.length ≤ 100000 ∧ PyData.strOk x = true) ∧ SmN 0 d
theorem sma {ds : List PyData} (h : (PyData.showableAll ds && decide (PyData.depthAll ds ≤ 1) && PyData.leavesShortAll 40 ds && decide (PyData.bulkAll ds ≤ 40)) = true) : SmA 1 40 ds := by
  simp only [Bool.and_eq_true, decide_eq_true_iff] at h
  exact ⟨h.1.1.1, h.1.1.2, h.1.2, h.2⟩
theorem smd {d : PyData} (h : (d.showable && decide (d.depth ≤ 2) && d.leavesShort 40 && decide (d.bulk ≤ 40)) = true) : SmN 0 d := by
  simp only [Bool.and_eq_true, decide_eq_true_iff] at h
  exact ⟨h.1.1.1, h.1.1.2, h.1.2, h.2⟩
section
variable {s c p : Addr} {H H' : Hp} {v : V}
theorem OddQ.non : OddQ s c H .non := ⟨_, .non, rfl, (fun _ e => nomatch e), .non⟩
theorem OddQ.bl (b : Bool) : OddQ s c H (.bl b) := ⟨_, .bl b, rfl, (fun _ e => nomatch e), ⟨rfl, Nat.zero_le _, rfl, Nat.zero_le _⟩⟩
theorem OddQ.int (i : Int) (h : SmN 0 (.int i)) : OddQ s c H (.int i) := ⟨_, .int i, rfl, (fun _ e => nomatch e), h⟩
theorem OddQ.str (x : Str) (h : x.length ≤ 40) (k : PyData.strOk x = true) : OddQ s c H (.str x) := ⟨_, .str x, rfl, (fun y e => by cases e; exact ⟨by omega, k⟩), .str k h⟩
theorem OddQ.tup {xs : List V} {ds : List PyData} (S : Src H s c) (hp : H p = none) (h : DqAll (cutH s c H) xs ds) (n : ds.length ≠ 3) (q : SmA 1 40 ds) : OddQ s c (upd H p (.tup xs)) (.ref p) :=
  ⟨.tuple ds, .tup (cut_in (S.ne_none hp) upd_same) (h.same (cut_of (same_new hp _))), decide_eq_false n, (fun _ e => nomatch e), q.tuple⟩
theorem OddQ.lst {xs : List V} {ds : List PyData} (S : Src H s c) (hp : H p = none) (big : sysModules < p) (h : DqAll (cutH s c H) xs ds) (q : SmA 1 40 ds) : OddQ s c (upd H p (.lst xs)) (.ref p) :=
  ⟨.list ds, .lst (cut_in (S.ne_none hp) upd_same) big (h.same (cut_of (same_new hp _))), rfl, (fun _ e => nomatch e), q.list⟩
theorem OddQ.dct {kvs : List (Key × V)} {es : List (PyData × PyData)} (S : Src H s c) (hp : H p = none) (x : DctE kvs es) : OddQ s c (upd H p (.dK kvs)) (.ref p) :=
  ⟨.dict es, .dct (cut_in (S.ne_none hp) upd_same) x, rfl, (fun _ e => nomatch e), by cases x <;> exact smd (by decide +kernel)⟩
theorem OddQ.same (e : Same H H') (h : OddQ s c H v) : OddQ s c H' v := by
  obtain ⟨d, a, b, k⟩ := h
  exact ⟨d, a.same (cut_of e), b, k⟩
theorem OddQ.go (g : Go s c H H') (h : OddQ s c H v) : OddQ s c H' v := by
  obtain ⟨d, a, b, k⟩ := h
  exact ⟨d, a.same (cut_go g), b, k⟩
end
def spOddQ : Sp := fun vs H Q _ => ∃ (s c : Addr), vs = [.ref s] ∧ Src H s c ∧ ∀ (v : V) (H' : Hp), OddQ s c H' v → Go s c H H' → Q v H'
section
variable {P : Program} {w : World} {K : PySem.W.Frag} {mg : Str → Option Value} {base : Heap}
theorem ok_odd (T : Tx K mg) : FnOk P w K mg base CX0 3 T.a_law_odd T.fd_law_odd ["_law_source_here"] spOddQ := by
  refine T.F_law_odd.ok sc_law_odd (fun vs H Q E h => ?_) (fun cdv A outer st H vs Q E hr h => ?_)
  · obtain ⟨s, c, rfl, _⟩ := h
    rfl
  obtain ⟨s, c, rfl, hS, k⟩ := h
  have G_law_of : FnOk P w K mg base CX0 2 T.a_law_of T.fd_law_of ["_law_source_here", "_law_some"] (spOf K) := ok_of T
  have hr_law_of : Room 2 _ := hr
  refine ⟨_, ((pss_cons (ps_set (i := 1) sc_law_odd.nd rfl (Or.inl rfl) (pe_lst (pa_cons pe_non (pa_cons pe_bl (pa_cons pe_bl (pa_cons (pe_un un_neg pe_int) (pa_cons pe_int (pa_cons (pe_op op_pow pe_int pe_int) (pa_cons pe_str (pa_cons pe_str (pa_cons pe_str (pa_cons (pe_tup pa_nil) (pa_cons (pe_lstN pa_nil) (pa_cons pe_dnewK (pa_cons (pe_tup (pa_cons pe_non pa_nil)) (pa_cons (pe_lstN (pa_cons (pe_tup pa_nil) pa_nil)) (pa_cons (pe_tup (pa_cons pe_int pa_nil)) (pa_cons (pe_tup (pa_cons pe_int (pa_cons pe_int pa_nil))) (pa_cons (pe_tup (pa_cons pe_str (pa_cons pe_int pa_nil))) pa_nil)))))))))))))))))))
      (pss_one (ps_ret (pe_call G_law_of hr_law_of rfl T.m_law_of T.F_law_of.kp T.b_law_of .nil pass0 (pa_cons (pv 0) (pa_cons (pe_op op_cat (pv 1) (pe_lst (pa_cons (pe_disp (pps_cons pe_int pe_int pps_nil) (by rfl) (by rfl) (fun z => by cases z) (by decide)) pa_nil))) pa_nil))))))), ?_⟩
  refine ⟨_, rfl, _, _, rfl, rfl, ⟨by decide, by decide, by decide⟩, Nat.zero_le _, fun p1 h1 => ?_⟩
  have s1 := same_new h1 (.tup [])
  have S1 := hS.same s1
  have o1 : OddQ s c (upd H p1 (.tup [])) (.ref p1) := .tup hS h1 .nil (by decide) .nil
  refine ⟨Nat.zero_le _, fun p2 h2 big2 => fun p3 h3 => ⟨(by show 1 ≤ sizeLine; decide), fun p4 h4 => ⟨Nat.zero_le _, fun p5 h5 => ⟨(by show 1 ≤ sizeLine; decide), fun p6 h6 big6 => ?_⟩⟩⟩⟩
  have s2 := same_new h2 (.lst [])
  have S2 := S1.same s2
  have o2 : OddQ s c _ (.ref p2) := .lst S1 h2 big2 (xs := []) .nil .nil
  have s3 := same_new h3 (.dK [])
  have S3 := S2.same s3
  have o3 : OddQ s c _ (.ref p3) := .dct S2 h3 .none
  have s4 := same_new h4 (.tup [.non])
  have S4 := S3.same s4
  have o4 : OddQ s c _ (.ref p4) := .tup S3 h4 (xs := [.non]) (.cons .non .nil) (by decide) (sma (by decide +kernel))
  have s5 := same_new h5 (.tup [])
  have S5 := S4.same s5
  have s6 := same_new h6 (.lst [.ref p5])
  have S6 := S5.same s6
  have o6 : OddQ s c _ (.ref p6) := .lst S5 h6 big6 (xs := [.ref p5]) (.cons (.tup (cut_in (S4.ne_none h5) upd_same) .nil) .nil) (sma (by decide +kernel))
  refine ⟨(by show 1 ≤ sizeLine; decide), fun p7 h7 => ⟨(by show 2 ≤ sizeLine; decide), fun p8 h8 => ⟨(by show 2 ≤ sizeLine; decide), fun p9 h9 => ⟨(by show 17 ≤ sizeLine; decide), fun p10 h10 => ?_⟩⟩⟩⟩
  have s7 := same_new h7 (.tup [.int 0])
  have S7 := S6.same s7
  have o7 : OddQ s c _ (.ref p7) := .tup S6 h7 (xs := [.int 0]) (.cons (.int 0) .nil) (by decide) (sma (by decide +kernel))
  have s8 := same_new h8 (.tup [.int 0, .int 0])
  have S8 := S7.same s8
  have o8 : OddQ s c _ (.ref p8) := .tup S7 h8 (xs := [.int 0, .int 0]) (.cons (.int 0) (.cons (.int 0) .nil)) (by decide) (sma (by decide +kernel))
  have s9 := same_new h9 (.tup [.str "x", .int 1])
  have S9 := S8.same s9
  have o9 : OddQ s c _ (.ref p9) := .tup S8 h9 (xs := [.str "x", .int 1]) (.cons (.str "x") (.cons (.int 1) .nil)) (by decide) (sma (by decide +kernel))
  have s10 := same_new h10 (.lst [.non, .bl true, .bl false, .int (-1), .int 7, .int ((10 : Int) ^ (30 : Int).toNat), .str "", .str "A", .str "x", .ref p1, .ref p2, .ref p3, .ref p4, .ref p6, .ref p7, .ref p8, .ref p9])
  have S10 := S9.same s10
  refine ⟨_, rfl, _, rfl, fun p11 h11 => ?_⟩
  have s11 := same_new h11 (.dK [])
  have S11 := S10.same s11
  have e12 : upd (upd (upd (upd (upd (upd (upd (upd (upd (upd (upd (upd H p1 (.tup [])) p2 (.lst [])) p3 (.dK [])) p4 (.tup [.non])) p5 (.tup [])) p6 (.lst [.ref p5])) p7 (.tup [.int 0])) p8 (.tup [.int 0, .int 0])) p9 (.tup [.str "x", .int 1])) p10 (.lst [.non, .bl true, .bl false, .int (-1), .int 7, .int ((10 : Int) ^ (30 : Int).toNat), .str "", .str "A", .str "x", .ref p1, .ref p2, .ref p3, .ref p4, .ref p6, .ref p7, .ref p8, .ref p9])) p11 (.dK [])) p11 (.dK [(.inl 0, .int 1)]) = upd (upd (upd (upd (upd (upd (upd (upd (upd (upd (upd H p1 (.tup [])) p2 (.lst [])) p3 (.dK [])) p4 (.tup [.non])) p5 (.tup [])) p6 (.lst [.ref p5])) p7 (.tup [.int 0])) p8 (.tup [.int 0, .int 0])) p9 (.tup [.str "x", .int 1])) p10 (.lst [.non, .bl true, .bl false, .int (-1), .int 7, .int ((10 : Int) ^ (30 : Int).toNat), .str "", .str "A", .str "x", .ref p1, .ref p2, .ref p3, .ref p4, .ref p6, .ref p7, .ref p8, .ref p9])) p11 (.dK [(.inl 0, .int 1)]) := upd_upd
  have em : mergeK [] [((.inl 0 : Key), V.int 1)] = [((.inl 0 : Key), V.int 1)] := rfl
  refine ⟨upd_same, [(.inl 0, .int 1)], rfl, by decide, ?_⟩
  rw [em, e12]
  have s12 := same_new h11 (.dK [(.inl 0, .int 1)])
  have S12 := S10.same s12
  have o12 : OddQ s c _ (.ref p11) := .dct S10 h11 .one
  refine ⟨(by show 1 ≤ sizeLine; decide), fun p13 h13 => ?_⟩
  have s13 := same_new h13 (.lst [.ref p11])
  have S13 := S12.same s13
  refine ⟨p10, p13, _, _, rfl, rfl, s13 _ _ (s12 _ _ upd_same), upd_same, (by show 18 ≤ sizeLine; decide), fun p14 h14 => ?_⟩
  have s14 := same_new h14 (.lst ([.non, .bl true, .bl false, .int (-1), .int 7, .int ((10 : Int) ^ (30 : Int).toNat), .str "", .str "A", .str "x", .ref p1, .ref p2, .ref p3, .ref p4, .ref p6, .ref p7, .ref p8, .ref p9] ++ [.ref p11]))
  have S14 := S13.same s14
  have n14 := S13.ne_none h14
  refine ⟨s, c, p14, _, rfl, S14, upd_same, n14.2, (by show 1 ≤ 18; decide), (by show 18 < 1000000; decide), fun i x H1 hx g1 => ?_⟩
  have t9 := ((((s10.trans s12).trans s13).trans s14))
  have t8 := s9.trans t9
  have t7 := s8.trans t8
  have t6 := s7.trans t7
  have t4 := (s5.trans s6).trans t6
  have t3 := s4.trans t4
  have t2 := s3.trans t3
  have t1 := s2.trans t2
  have all : ∀ y ∈ ([.non, .bl true, .bl false, .int (-1), .int 7, .int ((10 : Int) ^ (30 : Int).toNat), .str "", .str "A", .str "x", .ref p1, .ref p2, .ref p3, .ref p4, .ref p6, .ref p7, .ref p8, .ref p9, .ref p11] : List V), OddQ s c _ y :=
    forall_cons OddQ.non (forall_cons (OddQ.bl true) (forall_cons (OddQ.bl false) (forall_cons (OddQ.int _ (smd (by decide +kernel))) (forall_cons (OddQ.int _ (smd (by decide +kernel))) (forall_cons (OddQ.int _ (smd (by decide +kernel))) (forall_cons (OddQ.str "" (by decide +kernel) (by decide +kernel)) (forall_cons (OddQ.str "A" (by decide +kernel) (by decide +kernel)) (forall_cons (OddQ.str "x" (by decide +kernel) (by decide +kernel))
      (forall_cons (o1.same t1) (forall_cons (o2.same t2) (forall_cons (o3.same t3) (forall_cons (o4.same t4) (forall_cons (o6.same t6) (forall_cons (o7.same t7) (forall_cons (o8.same t8) (forall_cons (o9.same t9) (forall_cons (o12.same (s13.trans s14)) forall_nil)))))))))))))))))
  exact k x H1 ((all x (List.mem_of_getElem? hx)).go g1) ((Go.of hS (s1.trans t1)).trans g1)
end
end My
namespace My
open PySem PySem.Spec PyProof.Rows L2
/-! ### bent trees -/
def FQ (n : Nat) (s c : Addr) (H : Hp) (v : V) : Prop := ∃ d, Dq (cutH s c H) v d ∧ fitF n d ∧ SmN n d
def ThQ (n : Nat) (s c : Addr) (H : Hp) (v : V) : Prop := ∃ d, Dq (cutH s c H) v d ∧ (∀ x, d = .str x → x.length ≤ 100000 ∧ PyData.strOk x = true) ∧ SmN n d
section
variable {n : Nat} {d e f : PyData}
theorem sm1 (h : SmN n d) : SmA (n + 2) (Bn (n + 1)) [d] := (SmA.cons h (SmA.nil (b := 0))).up (by rw [Bn_succ]; have := Bn_pos n; omega)
theorem sm2 (h : SmN n d) (k : SmN n e) : SmA (n + 2) (Bn (n + 1)) [d, e] := (SmA.cons h (SmA.cons k (SmA.nil (b := 0)))).up (by rw [Bn_succ]; have := Bn_pos n; omega)
theorem sm3 (h : SmN n d) (k : SmN n e) (l : SmN n f) : SmA (n + 2) (Bn (n + 1)) [d, e, f] := (SmA.cons h (SmA.cons k (SmA.cons l (SmA.nil (b := 0))))).up (by rw [Bn_succ]; have := Bn_pos n; omega)
theorem sm4 (h : SmN n d) (k : SmN n e) (l : SmN n f) : SmA (n + 2) (Bn (n + 1)) [d, e, f, .none] := (SmA.cons h (SmA.cons k (SmA.cons l (SmA.cons (Sm.non (b := 0)) (SmA.nil (b := 0)))))).up (by rw [Bn_succ]; have := Bn_pos n; omega)
end
section
variable {s c p : Addr} {H H' : Hp} {v x y z : V} {n : Nat}
theorem FQ.same (e : Same H H') (h : FQ n s c H v) : FQ n s c H' v := let ⟨d, a, b⟩ := h; ⟨d, a.same (cut_of e), b⟩
theorem FQ.go (g : Go s c H H') (h : FQ n s c H v) : FQ n s c H' v := let ⟨d, a, b⟩ := h; ⟨d, a.same (cut_go g), b⟩
theorem ThQ.same (e : Same H H') (h : ThQ n s c H v) : ThQ n s c H' v := let ⟨d, a, b⟩ := h; ⟨d, a.same (cut_of e), b⟩
theorem ThQ.go (g : Go s c H H') (h : ThQ n s c H v) : ThQ n s c H' v := let ⟨d, a, b⟩ := h; ⟨d, a.same (cut_go g), b⟩
theorem OddQ.fq (h : OddQ s c H v) : FQ (n + 1) s c H v := let ⟨d, a, b, k, q⟩ := h; ⟨d, a, ⟨k, fun f => by rw [b] at f; cases f⟩, q.up (Nat.zero_le _)⟩
theorem OddQ.th (h : OddQ s c H v) : ThQ n s c H v := let ⟨d, a, _, k, q⟩ := h; ⟨d, a, k, q.up (Nat.zero_le _)⟩
theorem ThQ.non : ThQ n s c H .non := ⟨_, .non, (fun _ e => nomatch e), .non⟩
theorem FQ.fork (S : Src H s c) (hp : H p = none) (hx : FQ n s c H x) (hy : FQ n s c H y) (hz : ThQ n s c H z) : FQ (n + 1) s c (upd H p (.tup [x, y, z])) (.ref p) := by
  obtain ⟨d1, a1, b1, q1⟩ := hx
  obtain ⟨d2, a2, b2, q2⟩ := hy
  obtain ⟨d3, a3, b3, q3⟩ := hz
  have cs := cut_of (s := s) (c := c) (same_new hp (.tup [x, y, z]))
  exact ⟨.tuple [d1, d2, d3], .tup (cut_in (S.ne_none hp) upd_same) (.cons (a1.same cs) (.cons (a2.same cs) (.cons (a3.same cs) .nil))), ⟨(fun _ e => nomatch e), fun _ => ⟨b1, b2, b3⟩⟩, (sm3 q1 q2 q3).tuple⟩
theorem FQ.other (S : Src H s c) (hp : H p = none) {xs : List V} {ds : List PyData} (h : DqAll (cutH s c H) xs ds) (l : ds.length ≠ 3) (q : SmA (n + 2) (Bn (n + 1)) ds) : FQ (n + 1) s c (upd H p (.tup xs)) (.ref p) :=
  ⟨.tuple ds, .tup (cut_in (S.ne_none hp) upd_same) (h.same (cut_of (same_new hp _))), ⟨(fun _ e => nomatch e), fun z => absurd (of_decide_eq_true z) l⟩, q.tuple⟩
theorem FQ.lst (S : Src H s c) (hp : H p = none) (big : sysModules < p) {xs : List V} {ds : List PyData} (h : DqAll (cutH s c H) xs ds) (q : SmA (n + 2) (Bn (n + 1)) ds) : FQ (n + 1) s c (upd H p (.lst xs)) (.ref p) :=
  ⟨.list ds, .lst (cut_in (S.ne_none hp) upd_same) big (h.same (cut_of (same_new hp _))), ⟨(fun _ e => nomatch e), fun z => nomatch z⟩, q.list⟩
end
theorem fitF_up : ∀ (n : Nat) (d : PyData), fitF n d → fitF (n + 1) d
  | 0, _, h => h.elim
  | n + 1, d, ⟨h1, h2⟩ => ⟨h1, fun f => let ⟨a, b, e⟩ := h2 f; ⟨fitF_up n _ a, fitF_up n _ b, e⟩⟩
theorem FQ.up {s c : Addr} {H : Hp} {v : V} {n : Nat} (h : FQ n s c H v) : FQ (n + 1) s c H v := let ⟨d, a, b, q⟩ := h; ⟨d, a, fitF_up n d b, q.up (Nat.le_succ n)⟩
theorem fitF_th : ∀ (n : Nat) (d : PyData), fitF n d → ∀ x, d = .str x → x.length ≤ 100000 ∧ PyData.strOk x = true
  | 0, _, h => h.elim
  | _ + 1, _, h => h.1
def spBent (n : Nat) : Sp := fun vs H Q _ => ∃ (s c : Addr) (v : V) (d : PyData), vs = [.ref s, v] ∧ Src H s c ∧ Dq (cutH s c H) v d ∧ goodF n d ∧ n ≤ 10 ∧
  ∀ (v' : V) (H' : Hp), Go s c H H' → FQ (n + 1) s c H' v' → Q v' H'
section
variable {P : Program} {w : World} {K : PySem.W.Frag} {mg : Str → Option Value} {base : Heap}
theorem ok_bent (T : Tx K mg) : ∀ n, FnOk P w K mg base CX0 (n + 4) T.a_law_bent T.fd_law_bent ["_law_source_here", "_law_tree"] (spBent n)
  | 0 => by
    refine T.F_law_bent.ok sc_law_bent (fun vs H Q E h => ?_) (fun cdv A outer st H vs Q E hr h => ?_)
    · obtain ⟨s, c, v, d, rfl, _⟩ := h
      rfl
    · obtain ⟨s, c, v, d, _, _, _, g, _⟩ := h
      exact g.elim
  | n + 1 => by
    refine T.F_law_bent.ok sc_law_bent (fun vs H Q E h => ?_) (fun cdv A outer st H vs Q E hr h => ?_)
    · obtain ⟨s, c, v, d, rfl, _⟩ := h
      rfl
    obtain ⟨s, c, v, d, rfl, hS, dq, gd, hn, k⟩ := h
    have G_law_bent : FnOk P w K mg base CX0 (n + 4) T.a_law_bent T.fd_law_bent ["_law_source_here", "_law_tree"] (spBent n) := ok_bent T n
    have hr_law_bent : Room (n + 4) _ := hr
    have G_law_odd : FnOk P w K mg base CX0 3 T.a_law_odd T.fd_law_odd ["_law_source_here"] spOddQ := ok_odd T
    have hr_law_odd : Room 3 _ := hr.mono (by omega)
    have G_law_pick : FnOk P w K mg base CX0 1 T.a_law_pick T.fd_law_pick ["_law_source_here", "_law_many"] spPick := ok_pick T
    have hr_law_pick : Room 1 _ := hr.mono (by omega)
    have G_law_of : FnOk P w K mg base CX0 2 T.a_law_of T.fd_law_of ["_law_source_here", "_law_some"] (spOf K) := ok_of T
    have hr_law_of : Room 2 _ := hr.mono (by omega)
    refine ⟨_, ((pss_cons (ps_par (i := 2) (j := 3) (by rfl) sc_law_bent.nd rfl rfl (by decide) rfl rfl (pa_cons (pe_call G_law_odd hr_law_odd rfl T.m_law_odd T.F_law_odd.kp T.b_law_odd .nil pass0 (pa_cons (pv 0) pa_nil)) (pa_cons (pe_call G_law_pick hr_law_pick rfl T.m_law_pick T.F_law_pick.kp T.b_law_pick .nil pass0 (pa_cons (pv 0) (pa_cons pe_int pa_nil))) pa_nil)) (by rfl))
      (pss_cons (ps_if (PW.pt (pw_or (pt_val (pe_callB (show CallR _ (.builtin "isinstance") (rIsi K) from call_isi) (by rfl) T.n_isinstance (by decide +kernel) (pa_cons (pv 1) (pa_cons (pe_bltn (v := .ty "str") (by rfl) T.n_str (by decide +kernel) rfl) pa_nil)))) (pw_or1 (pt_cmpR op_eq (pv 3) pe_int (nomark _)))))
        (pss_one (ps_ret (pe_call G_law_of hr_law_of rfl T.m_law_of T.F_law_of.kp T.b_law_of .nil pass0 (pa_cons (pv 0) (pa_cons (pe_lst (pa_cons (pv 2) (pa_cons (pe_tup pa_nil) (pa_cons (pe_lstN (pa_cons (pv 1) pa_nil)) (pa_cons (pe_tup (pa_cons (pv 1) pa_nil)) (pa_cons (pe_tup (pa_cons (pv 1) (pa_cons (pv 1) pa_nil))) (pa_cons pe_str (pa_cons pe_str (pa_cons pe_dnewK (pa_cons pe_non (pa_cons pe_int (pa_cons (pe_tup (pa_cons (pv 1) (pa_cons (pv 1) (pa_cons (pv 2) pa_nil)))) (pa_cons (pe_tup (pa_cons (pv 1) (pa_cons (pv 2) (pa_cons pe_non pa_nil)))) (pa_cons (pe_tup (pa_cons (pv 2) (pa_cons (pv 1) (pa_cons pe_non pa_nil)))) pa_nil)))))))))))))) pa_nil)))))
        pss_nil)
      (pss_cons (ps_if (pt_cmpR op_eq (pv 3) pe_int (nomark _))
        (pss_one (ps_ret (pe_call G_law_of hr_law_of rfl T.m_law_of T.F_law_of.kp T.b_law_of .nil pass0 (pa_cons (pv 0) (pa_cons (pe_lst (pa_cons (pe_callTy call_list_ofN (by rfl) T.n_list (by decide +kernel) (pa_cons (pv 1) pa_nil)) (pa_cons (pe_slice sl_tup (pv 1) po_none (po_some pe_int)) (pa_cons (pe_op op_catT (pv 1) (pe_tup (pa_cons pe_non pa_nil))) (pa_cons (pe_op op_catT (pe_slice sl_tup (pv 1) po_none (po_some pe_int)) (pe_tup (pa_cons (pv 2) pa_nil))) (pa_cons (pe_op op_catT (pe_slice sl_tup (pv 1) po_none (po_some pe_int)) (pe_tup (pa_cons pe_str pa_nil))) (pa_cons (pe_tup (pa_cons (pe_ix ix_tup (pv 1) pe_int (fun _ _ => rfl)) (pa_cons (pe_ix ix_tup (pv 1) pe_int (fun _ _ => rfl)) (pa_cons (pe_ix ix_tup (pv 1) pe_int (fun _ _ => rfl)) pa_nil)))) pa_nil))))))) pa_nil)))))
        pss_nil)
      (pss_cons (ps_if (pt_cmpR op_eq (pv 3) pe_int (nomark _))
        (pss_one (ps_ret (pe_tup (pa_cons (pe_call G_law_bent hr_law_bent rfl T.m_law_bent T.F_law_bent.kp T.b_law_bent .nil pass0 (pa_cons (pv 0) (pa_cons (pe_ix ix_tup (pv 1) pe_int (fun _ _ => rfl)) pa_nil))) (pa_cons (pe_call G_law_bent hr_law_bent rfl T.m_law_bent T.F_law_bent.kp T.b_law_bent .nil pass0 (pa_cons (pv 0) (pa_cons (pe_ix ix_tup (pv 1) pe_int (fun _ _ => rfl)) pa_nil))) (pa_cons (pe_call G_law_of hr_law_of rfl T.m_law_of T.F_law_of.kp T.b_law_of .nil pass0 (pa_cons (pv 0) (pa_cons (pe_lst (pa_cons (pe_ix ix_tup (pv 1) pe_int (fun _ _ => rfl)) (pa_cons (pv 2) pa_nil))) pa_nil))) pa_nil))))))
        pss_nil)
      (pss_cons (ps_if (pt_cmpR op_lt (pv 3) pe_int (nomark _))
        (pss_one (ps_ret (pe_tup (pa_cons (pe_call G_law_bent hr_law_bent rfl T.m_law_bent T.F_law_bent.kp T.b_law_bent .nil pass0 (pa_cons (pv 0) (pa_cons (pe_ix ix_tup (pv 1) pe_int (fun _ _ => rfl)) pa_nil))) (pa_cons (pe_ix ix_tup (pv 1) pe_int (fun _ _ => rfl)) (pa_cons (pe_call G_law_of hr_law_of rfl T.m_law_of T.F_law_of.kp T.b_law_of .nil pass0 (pa_cons (pv 0) (pa_cons (pe_lst (pa_cons (pe_ix ix_tup (pv 1) pe_int (fun _ _ => rfl)) (pa_cons (pe_ix ix_tup (pv 1) pe_int (fun _ _ => rfl)) (pa_cons (pv 2) pa_nil)))) pa_nil))) pa_nil))))))
        pss_nil)
      (pss_one (ps_ret (pe_tup (pa_cons (pe_ix ix_tup (pv 1) pe_int (fun _ _ => rfl)) (pa_cons (pe_call G_law_bent hr_law_bent rfl T.m_law_bent T.F_law_bent.kp T.b_law_bent .nil pass0 (pa_cons (pv 0) (pa_cons (pe_ix ix_tup (pv 1) pe_int (fun _ _ => rfl)) pa_nil))) (pa_cons (pe_call G_law_of hr_law_of rfl T.m_law_of T.F_law_of.kp T.b_law_of .nil pass0 (pa_cons (pv 0) (pa_cons (pe_lst (pa_cons (pe_ix ix_tup (pv 1) pe_int (fun _ _ => rfl)) (pa_cons (pe_ix ix_tup (pv 1) pe_int (fun _ _ => rfl)) (pa_cons (pv 2) pa_nil)))) pa_nil))) pa_nil)))))))))))), ?_⟩
    refine ⟨_, rfl, s, c, rfl, hS, fun o H1 oq g1 => ⟨_, rfl, s, c, 6, rfl, g1.src, by decide, by decide, fun way H2 w0 w6 g2 => ⟨_, _, rfl, ?_⟩⟩⟩
    have oq := oq.go g2
    have dq := dq.same ((cut_go g1).trans (cut_go g2))
    have g12 := g1.trans g2
    have S2 := g2.src
    have tf : FQ (n + 1) s c H2 v := ⟨d, dq, (goodF_all _ _ gd).1, good_sm _ _ gd⟩
    refine ⟨_, rfl, v, .ty "str", .type (tyD d), .type "str", _, rfl, .ty _, (dq.same cut_same).ty, is_str d, _, rfl, ?_⟩
    by_cases hstr : tyD d = "str"
    · rw [decide_eq_true hstr]
      refine iteT ?_
      refine ⟨_, rfl, _, rfl, Nat.zero_le _, fun a1 b1 => ⟨_, rfl, (by show 1 ≤ sizeLine; decide), fun a2 b2 big2 => ⟨_, rfl, (by show 1 ≤ sizeLine; decide), fun a3 b3 => ⟨_, rfl, _, rfl, (by show 2 ≤ sizeLine; decide), fun a4 b4 => fun a5 b5 => ⟨_, rfl, _, rfl, _, rfl, (by show 3 ≤ sizeLine; decide), fun a6 b6 => ⟨_, rfl, _, rfl, (by show 3 ≤ sizeLine; decide), fun a7 b7 => ⟨_, rfl, _, rfl, (by show 3 ≤ sizeLine; decide), fun a8 b8 => ⟨(by show 13 ≤ sizeLine; decide), fun a9 b9 => ?_⟩⟩⟩⟩⟩⟩⟩⟩
      have u1 := same_new b1 (.tup [])
      have u2 := same_new b2 (.lst [v])
      have u3 := same_new b3 (.tup [v])
      have u4 := same_new b4 (.tup [v, v])
      have u5 := same_new b5 (.dK [])
      have u6 := same_new b6 (.tup [v, v, o])
      have u7 := same_new b7 (.tup [v, o, .non])
      have u8 := same_new b8 (.tup [o, v, .non])
      have u9 := same_new b9 (.lst [o, .ref a1, .ref a2, .ref a3, .ref a4, .str "A", .str "abcdefghijklm", .ref a5, .non, .int 7, .ref a6, .ref a7, .ref a8])
      have T0 := S2
      have T1 := T0.same u1
      have T2 := T1.same u2
      have T3 := T2.same u3
      have T4 := T3.same u4
      have T5 := T4.same u5
      have T6 := T5.same u6
      have T7 := T6.same u7
      have T8 := T7.same u8
      have v1 := u1
      have v2 := v1.trans u2
      have v3 := v2.trans u3
      have v4 := v3.trans u4
      have v5 := v4.trans u5
      have v6 := v5.trans u6
      have v7 := v6.trans u7
      have v8 := v7.trans u8
      have z8 := u9
      have z7 := u8.trans z8
      have z6 := u7.trans z7
      have z5 := u6.trans z6
      have z4 := u5.trans z5
      have z3 := u4.trans z4
      have z2 := u3.trans z3
      have z1 := u2.trans z2
      have o1 : OddQ s c _ (.ref a1) := .tup T0 b1 .nil (by decide) .nil
      obtain ⟨dv, qv, fv, sv⟩ := tf
      have tf : FQ (n + 1) s c H2 v := ⟨dv, qv, fv, sv⟩
      have o2 : FQ (n + 2) s c _ (.ref a2) := .lst T1 b2 big2 (xs := [v]) (.cons (qv.same (cut_of v1)) .nil) (sm1 sv)
      have o3 : FQ (n + 2) s c _ (.ref a3) := .other T2 b3 (xs := [v]) (.cons (qv.same (cut_of v2)) .nil) (by show 1 ≠ 3; decide) (sm1 sv)
      have o4 : FQ (n + 2) s c _ (.ref a4) := .other T3 b4 (xs := [v, v]) (.cons (qv.same (cut_of v3)) (.cons (qv.same (cut_of v3)) .nil)) (by show 2 ≠ 3; decide) (sm2 sv sv)
      have o5 : OddQ s c _ (.ref a5) := .dct T4 b5 .none
      have o6 : FQ (n + 2) s c _ (.ref a6) := .fork T5 b6 (tf.same v5) (tf.same v5) (oq.th.same v5)
      have o7 : FQ (n + 2) s c _ (.ref a7) := .fork T6 b7 (tf.same v6) (oq.fq.same v6) .non
      have o8 : FQ (n + 2) s c _ (.ref a8) := .fork T7 b8 (oq.fq.same v7) (tf.same v7) .non
      have n9 := T8.ne_none b9
      have all : ∀ y ∈ ([o, .ref a1, .ref a2, .ref a3, .ref a4, .str "A", .str "abcdefghijklm", .ref a5, .non, .int 7, .ref a6, .ref a7, .ref a8] : List V), FQ (n + 2) s c _ y :=
        forall_cons (oq.fq.same (v8.trans u9)) (forall_cons (o1.fq.same z1) (forall_cons (o2.same z2) (forall_cons (o3.same z3) (forall_cons (o4.same z4) (forall_cons (OddQ.str "A" (by decide +kernel) (by decide +kernel)).fq (forall_cons (OddQ.str "abcdefghijklm" (by decide +kernel) (by decide +kernel)).fq (forall_cons (o5.fq.same z5) (forall_cons OddQ.non.fq (forall_cons (OddQ.int 7 (smd (by decide +kernel))).fq (forall_cons (o6.same z6) (forall_cons (o7.same z7) (forall_cons (o8.same z8) forall_nil))))))))))))
      refine ⟨s, c, a9, _, rfl, T8.same u9, upd_same, n9.2, (by show 1 ≤ 13; decide), (by show 13 < 1000000; decide), fun i x M3 hx g3 => ?_⟩
      exact k x M3 ((g12.then (v8.trans u9)).trans g3) ((all x (List.mem_of_getElem? hx)).go g3)
    rw [decide_eq_false hstr]
    refine iteF ⟨_, rfl, rfl, _, rfl, iteD (fun hw => ?_) (fun hw => ?_)⟩
    · skip
      refine ⟨_, rfl, _, rfl, Nat.zero_le _, fun a1 b1 => ⟨_, rfl, (by show 1 ≤ sizeLine; decide), fun a2 b2 big2 => ⟨_, rfl, (by show 1 ≤ sizeLine; decide), fun a3 b3 => ⟨_, rfl, _, rfl, (by show 2 ≤ sizeLine; decide), fun a4 b4 => fun a5 b5 => ⟨_, rfl, _, rfl, _, rfl, (by show 3 ≤ sizeLine; decide), fun a6 b6 => ⟨_, rfl, _, rfl, (by show 3 ≤ sizeLine; decide), fun a7 b7 => ⟨_, rfl, _, rfl, (by show 3 ≤ sizeLine; decide), fun a8 b8 => ⟨(by show 13 ≤ sizeLine; decide), fun a9 b9 => ?_⟩⟩⟩⟩⟩⟩⟩⟩
      have u1 := same_new b1 (.tup [])
      have u2 := same_new b2 (.lst [v])
      have u3 := same_new b3 (.tup [v])
      have u4 := same_new b4 (.tup [v, v])
      have u5 := same_new b5 (.dK [])
      have u6 := same_new b6 (.tup [v, v, o])
      have u7 := same_new b7 (.tup [v, o, .non])
      have u8 := same_new b8 (.tup [o, v, .non])
      have u9 := same_new b9 (.lst [o, .ref a1, .ref a2, .ref a3, .ref a4, .str "A", .str "abcdefghijklm", .ref a5, .non, .int 7, .ref a6, .ref a7, .ref a8])
      have T0 := S2
      have T1 := T0.same u1
      have T2 := T1.same u2
      have T3 := T2.same u3
      have T4 := T3.same u4
      have T5 := T4.same u5
      have T6 := T5.same u6
      have T7 := T6.same u7
      have T8 := T7.same u8
      have v1 := u1
      have v2 := v1.trans u2
      have v3 := v2.trans u3
      have v4 := v3.trans u4
      have v5 := v4.trans u5
      have v6 := v5.trans u6
      have v7 := v6.trans u7
      have v8 := v7.trans u8
      have z8 := u9
      have z7 := u8.trans z8
      have z6 := u7.trans z7
      have z5 := u6.trans z6
      have z4 := u5.trans z5
      have z3 := u4.trans z4
      have z2 := u3.trans z3
      have z1 := u2.trans z2
      have o1 : OddQ s c _ (.ref a1) := .tup T0 b1 .nil (by decide) .nil
      obtain ⟨dv, qv, fv, sv⟩ := tf
      have tf : FQ (n + 1) s c H2 v := ⟨dv, qv, fv, sv⟩
      have o2 : FQ (n + 2) s c _ (.ref a2) := .lst T1 b2 big2 (xs := [v]) (.cons (qv.same (cut_of v1)) .nil) (sm1 sv)
      have o3 : FQ (n + 2) s c _ (.ref a3) := .other T2 b3 (xs := [v]) (.cons (qv.same (cut_of v2)) .nil) (by show 1 ≠ 3; decide) (sm1 sv)
      have o4 : FQ (n + 2) s c _ (.ref a4) := .other T3 b4 (xs := [v, v]) (.cons (qv.same (cut_of v3)) (.cons (qv.same (cut_of v3)) .nil)) (by show 2 ≠ 3; decide) (sm2 sv sv)
      have o5 : OddQ s c _ (.ref a5) := .dct T4 b5 .none
      have o6 : FQ (n + 2) s c _ (.ref a6) := .fork T5 b6 (tf.same v5) (tf.same v5) (oq.th.same v5)
      have o7 : FQ (n + 2) s c _ (.ref a7) := .fork T6 b7 (tf.same v6) (oq.fq.same v6) .non
      have o8 : FQ (n + 2) s c _ (.ref a8) := .fork T7 b8 (oq.fq.same v7) (tf.same v7) .non
      have n9 := T8.ne_none b9
      have all : ∀ y ∈ ([o, .ref a1, .ref a2, .ref a3, .ref a4, .str "A", .str "abcdefghijklm", .ref a5, .non, .int 7, .ref a6, .ref a7, .ref a8] : List V), FQ (n + 2) s c _ y :=
        forall_cons (oq.fq.same (v8.trans u9)) (forall_cons (o1.fq.same z1) (forall_cons (o2.same z2) (forall_cons (o3.same z3) (forall_cons (o4.same z4) (forall_cons (OddQ.str "A" (by decide +kernel) (by decide +kernel)).fq (forall_cons (OddQ.str "abcdefghijklm" (by decide +kernel) (by decide +kernel)).fq (forall_cons (o5.fq.same z5) (forall_cons OddQ.non.fq (forall_cons (OddQ.int 7 (smd (by decide +kernel))).fq (forall_cons (o6.same z6) (forall_cons (o7.same z7) (forall_cons (o8.same z8) forall_nil))))))))))))
      refine ⟨s, c, a9, _, rfl, T8.same u9, upd_same, n9.2, (by show 1 ≤ 13; decide), (by show 13 < 1000000; decide), fun i x M3 hx g3 => ?_⟩
      exact k x M3 ((g12.then (v8.trans u9)).trans g3) ((all x (List.mem_of_getElem? hx)).go g3)
    -- a fork
    have hf : forkD d = true ∧ goodF n (nthD d 0) ∧ goodF n (nthD d 1) ∧ (noneD (nthD d 2) = true ∨ wordD (nthD d 2) = true) := by
      rcases gd with h | h
      · obtain ⟨x, e, _⟩ := word_str h
        exact absurd (by rw [e]; rfl) hstr
      · exact h
    obtain ⟨a, x, y, z, rfl, ea', dx, dy, dz⟩ := dq.fork hf.1
    have ⟨na, nc, ea⟩ := cut_at' ea'
    have f0 := (goodF_all n _ hf.2.1).1
    have f1 := (goodF_all n _ hf.2.2.1).1
    have zsm : SmN 0 (nthD d 2) := (sm_third hf.2.2.2).up (by decide) (by decide)
    have zth : ThQ (n + 1) s c H2 z := ⟨_, dz, hf.2.2.2.elim none_fit word_fit, zsm.up (Nat.zero_le _)⟩
    have znf : forkD (nthD d 2) = false := by
      rcases hf.2.2.2 with h | h
      · cases e : nthD d 2 <;> first | rfl | (rw [e] at h; cases h)
      · exact word_no_fork h
    have zq : OddQ s c H2 z := ⟨_, dz, znf, hf.2.2.2.elim none_fit word_fit, zsm⟩
    have xsm := good_sm n _ hf.2.1
    have ysm := good_sm n _ hf.2.2.1
    have xq : FQ n s c H2 x := ⟨_, dx, f0, xsm⟩
    have yq : FQ n s c H2 y := ⟨_, dy, f1, ysm⟩
    have yth : ThQ (n + 1) s c H2 y := ⟨_, dy, fitF_th n _ f1, ysm.up (Nat.le_succ n)⟩
    have c2 : cutV [x, y, z] none (some 2) = [x, y] := rfl
    have nc2 : ¬ (HT.sIx [x, y, z].length 0 none = 0 ∧ HT.sIx [x, y, z].length [x, y, z].length (some 2) = [x, y, z].length) := fun h => absurd h.2 (by show (2 : Nat) ≠ 3; decide)
    refine ⟨_, rfl, rfl, _, rfl, iteD (fun hw1 => ?_) (fun hw1 => ?_)⟩
    · -- way 1
      refine ⟨_, rfl, _, rfl, a, _, rfl, .inr (SqT.of ea), fun a1 b1 big1 => ?_⟩
      have u1 := same_new b1 (.lst [x, y, z])
      have ea1 := u1 _ _ ea
      refine ⟨_, rfl, _, rfl, a, _, rfl, SqT.of ea1, nc2, fun a2 b2 => ?_⟩
      rw [c2]
      have u2 := same_new b2 (.tup [x, y])
      have ea2 := u2 _ _ ea1
      refine ⟨_, rfl, (by show 1 ≤ sizeLine; decide), fun t3 k3 => ?_⟩
      have q3 := same_new k3 (.tup [.non])
      have ea3 := q3 _ _ ea2
      refine ⟨a, t3, _, _, rfl, rfl, SqT.of ea3, SqT.of upd_same, List.cons_ne_nil _ _, (by show 4 ≤ sizeLine; decide), (fun e => nomatch e), fun _ a3 b3 => ?_⟩
      have u3 := same_new b3 (.tup ([x, y, z] ++ [.non]))
      have ea4 := u3 _ _ ea3
      refine ⟨_, rfl, _, rfl, a, _, rfl, SqT.of ea4, nc2, fun p4 r4 => ?_⟩
      rw [c2]
      have w4 := same_new r4 (.tup [x, y])
      refine ⟨_, rfl, (by show 1 ≤ sizeLine; decide), fun t4 k4 => ?_⟩
      have q4 := same_new k4 (.tup [o])
      refine ⟨p4, t4, _, _, rfl, rfl, SqT.of (q4 _ _ upd_same), SqT.of upd_same, List.cons_ne_nil _ _, (by show 3 ≤ sizeLine; decide), (fun e => nomatch e), fun _ a4 b4 => ?_⟩
      have u4 := same_new b4 (.tup ([x, y] ++ [o]))
      have w44 := (w4.trans q4).trans u4
      have ea5 := w44 _ _ ea4
      refine ⟨_, rfl, _, rfl, a, _, rfl, SqT.of ea5, nc2, fun p5 r5 => ?_⟩
      rw [c2]
      have w5 := same_new r5 (.tup [x, y])
      refine ⟨(by show 1 ≤ sizeLine; decide), fun t5 k5 => ?_⟩
      have q5 := same_new k5 (.tup [.str "A"])
      refine ⟨p5, t5, _, _, rfl, rfl, SqT.of (q5 _ _ upd_same), SqT.of upd_same, List.cons_ne_nil _ _, (by show 3 ≤ sizeLine; decide), (fun e => nomatch e), fun _ a5 b5 => ?_⟩
      have u5 := same_new b5 (.tup ([x, y] ++ [.str "A"]))
      have w55 := (w5.trans q5).trans u5
      have ea6 := w55 _ _ ea5
      refine ⟨_, rfl, a, _, _, _, rfl, rfl, SqT.of ea6, atI_nat (j := 2) rfl, _, rfl, a, _, _, _, rfl, rfl, SqT.of ea6, atI_nat (j := 0) rfl, _, rfl, a, _, _, _, rfl, rfl, SqT.of ea6, atI_nat (j := 1) rfl, (by show 3 ≤ sizeLine; decide), fun a6 b6 => ⟨(by show 6 ≤ sizeLine; decide), fun a7 b7 => ?_⟩⟩
      have u6 := same_new b6 (.tup [z, x, y])
      have u7 := same_new b7 (.lst [.ref a1, .ref a2, .ref a3, .ref a4, .ref a5, .ref a6])
      have v2 := u1.trans u2
      have v3 := v2.trans q3
      have v4 := (v3.trans u3).trans w4
      have v4' := v4.trans q4
      have v5 := (v4'.trans u4).trans w5
      have v5' := v5.trans q5
      have v6 := v5'.trans u5
      have v7 := v6.trans u6
      have T := fun (M : Hp) (e : Same H2 M) => S2.same e
      have o1 : FQ (n + 2) s c _ (.ref a1) := .lst S2 b1 big1 (.cons dx (.cons dy (.cons dz .nil))) (sm3 (xsm.up (Nat.le_succ n)) (ysm.up (Nat.le_succ n)) (zsm.up (Nat.zero_le _)))
      have o2 : FQ (n + 2) s c _ (.ref a2) := .other (T _ u1) b2 (xs := [x, y]) (.cons (dx.same (cut_of u1)) (.cons (dy.same (cut_of u1)) .nil)) (by show 2 ≠ 3; decide) (sm2 (xsm.up (Nat.le_succ n)) (ysm.up (Nat.le_succ n)))
      have o3 : FQ (n + 2) s c _ (.ref a3) := .other (T _ v3) b3 (xs := [x, y, z] ++ [.non]) (.cons (dx.same (cut_of v3)) (.cons (dy.same (cut_of v3)) (.cons (dz.same (cut_of v3)) (.cons .non .nil)))) (by show 4 ≠ 3; decide) (sm4 (xsm.up (Nat.le_succ n)) (ysm.up (Nat.le_succ n)) (zsm.up (Nat.zero_le _)))
      have o4 : FQ (n + 2) s c _ (.ref a4) := .fork (T _ v4') b4 (xq.up.same v4') (yq.up.same v4') (oq.th.same v4')
      have o5 : FQ (n + 2) s c _ (.ref a5) := .fork (T _ v5') b5 (xq.up.same v5') (yq.up.same v5') (OddQ.str "A" (by decide +kernel) (by decide +kernel)).th
      have o6 : FQ (n + 2) s c _ (.ref a6) := .fork (T _ v6) b6 (zq.fq.same v6) (xq.up.same v6) (yth.same v6)
      have n7 := (T _ v7).ne_none b7
      have e2 := ((q3.trans u3).trans w44).trans ((w55.trans u6).trans u7)
      have all : ∀ y ∈ ([.ref a1, .ref a2, .ref a3, .ref a4, .ref a5, .ref a6] : List V), FQ (n + 2) s c _ y :=
        forall_cons (o1.same (u2.trans e2)) (forall_cons (o2.same e2) (forall_cons (o3.same (w44.trans ((w55.trans u6).trans u7))) (forall_cons (o4.same ((w55.trans u6).trans u7)) (forall_cons (o5.same (u6.trans u7)) (forall_cons (o6.same u7) forall_nil)))))
      refine ⟨s, c, a7, _, rfl, T _ (v7.trans u7), upd_same, n7.2, (by show 1 ≤ 6; decide), (by show 6 < 1000000; decide), fun i x' M3 hx g3 => ?_⟩
      exact k x' M3 ((g12.then (v7.trans u7)).trans g3) ((all x' (List.mem_of_getElem? hx)).go g3)
    refine ⟨_, rfl, rfl, _, rfl, iteD (fun hw5 => ?_) (fun hw5 => ?_)⟩
    · -- both sides
      refine ⟨_, rfl, _, rfl, a, _, _, _, rfl, rfl, SqT.of ea, atI_nat (j := 0) rfl, s, c, x, _, rfl, S2, dx, hf.2.1, by omega, fun x' M1 ga xq' => ?_⟩
      have ea1 := ga.keep _ _ na nc ea
      refine ⟨_, rfl, _, rfl, a, _, _, _, rfl, rfl, SqT.of ea1, atI_nat (j := 1) rfl, s, c, y, _, rfl, ga.src, dy.same (cut_go ga), hf.2.2.1, by omega, fun y' M2 gb yq' => ?_⟩
      have gab := ga.trans gb
      have ea2 := gab.keep _ _ na nc ea
      refine ⟨_, rfl, _, rfl, a, _, _, _, rfl, rfl, SqT.of ea2, atI_nat (j := 2) rfl, _, rfl, (by show 2 ≤ sizeLine; decide), fun p h => ?_⟩
      have sp := same_new h (.lst [z, o])
      have np := gab.src.ne_none h
      refine ⟨s, c, p, _, rfl, gab.src.same sp, upd_same, np.2, (by show 1 ≤ 2; decide), (by show 2 < 1000000; decide), fun i z' M3 hz gc => ⟨(by show 3 ≤ sizeLine; decide), fun q hq => ?_⟩⟩
      have g3 : Go s c M2 M3 := (Go.of gab.src sp).trans gc
      have z'q : ThQ (n + 1) s c M3 z' := (forall_cons (p := fun u => ThQ (n + 1) s c M3 u) ((zth.go gab).go g3) (forall_cons ((oq.th.go gab).go g3) forall_nil)) z' (List.mem_of_getElem? hz)
      exact k (.ref q) _ (((g12.trans gab).trans g3).then (same_new hq _)) (.fork g3.src hq ((xq'.go gb).go g3) (yq'.go g3) z'q)
    refine ⟨_, rfl, _, _, rfl, rfl, _, rfl, ?_⟩
    by_cases hw4 : way < 4
    · -- the left side
      rw [decide_eq_true hw4]
      refine iteT ⟨_, rfl, _, rfl, a, _, _, _, rfl, rfl, SqT.of ea, atI_nat (j := 0) rfl, s, c, x, _, rfl, S2, dx, hf.2.1, by omega, fun x' M1 ga xq' => ?_⟩
      have ea1 := ga.keep _ _ na nc ea
      refine ⟨_, rfl, a, _, _, _, rfl, rfl, SqT.of ea1, atI_nat (j := 1) rfl, ?_⟩
      refine ⟨_, rfl, _, rfl, a, _, _, _, rfl, rfl, SqT.of ea1, atI_nat (j := 2) rfl, _, rfl, a, _, _, _, rfl, rfl, SqT.of ea1, atI_nat (j := 2) rfl, _, rfl, (by show 3 ≤ sizeLine; decide), fun p h => ?_⟩
      have sp := same_new h (.lst [z, z, o])
      have np := ga.src.ne_none h
      refine ⟨s, c, p, _, rfl, ga.src.same sp, upd_same, np.2, (by show 1 ≤ 3; decide), (by show 3 < 1000000; decide), fun i z' M3 hz gc => ⟨(by show 3 ≤ sizeLine; decide), fun q hq => ?_⟩⟩
      have g3 : Go s c M1 M3 := (Go.of ga.src sp).trans gc
      have z'q : ThQ (n + 1) s c M3 z' := (forall_cons (p := fun u => ThQ (n + 1) s c M3 u) ((zth.go ga).go g3) (forall_cons ((zth.go ga).go g3) (forall_cons ((oq.th.go ga).go g3) forall_nil))) z' (List.mem_of_getElem? hz)
      exact k (.ref q) _ (((g12.trans ga).trans g3).then (same_new hq _)) (.fork g3.src hq (xq'.go g3) ((yq.up.go ga).go g3) z'q)
    · -- the right side
      rw [decide_eq_false hw4]
      refine iteF ⟨_, rfl, a, _, _, _, rfl, rfl, SqT.of ea, atI_nat (j := 0) rfl, _, rfl, _, rfl, a, _, _, _, rfl, rfl, SqT.of ea, atI_nat (j := 1) rfl, s, c, y, _, rfl, S2, dy, hf.2.2.1, by omega, fun y' M1 ga yq' => ?_⟩
      have ea1 := ga.keep _ _ na nc ea
      refine ⟨_, rfl, _, rfl, a, _, _, _, rfl, rfl, SqT.of ea1, atI_nat (j := 2) rfl, _, rfl, a, _, _, _, rfl, rfl, SqT.of ea1, atI_nat (j := 2) rfl, _, rfl, (by show 3 ≤ sizeLine; decide), fun p h => ?_⟩
      have sp := same_new h (.lst [z, z, o])
      have np := ga.src.ne_none h
      refine ⟨s, c, p, _, rfl, ga.src.same sp, upd_same, np.2, (by show 1 ≤ 3; decide), (by show 3 < 1000000; decide), fun i z' M3 hz gc => ⟨(by show 3 ≤ sizeLine; decide), fun q hq => ?_⟩⟩
      have g3 : Go s c M1 M3 := (Go.of ga.src sp).trans gc
      have z'q : ThQ (n + 1) s c M3 z' := (forall_cons (p := fun u => ThQ (n + 1) s c M3 u) ((zth.go ga).go g3) (forall_cons ((zth.go ga).go g3) (forall_cons ((oq.th.go ga).go g3) forall_nil))) z' (List.mem_of_getElem? hz)
      exact k (.ref q) _ (((g12.trans ga).trans g3).then (same_new hq _)) (.fork g3.src hq ((xq.up.go ga).go g3) (yq'.go g3) z'q)
end
end My
namespace My
open PySem PySem.Spec PyProof.Rows L2
/-! ### repr of values at any depth, dicts among them -/
def encK : Key → PyData
  | .inl i => .int i
  | .inr x => .str x
theorem encK_reads {P : Program} {w : World} {h : Heap} (k : Key) (v : Value) (e : (mixKind P w).is k v = true) : Reads h v (encK k) [] := by
  rcases keyIs_shape e with ⟨i, t, rfl, rfl⟩ | ⟨x, t, rfl, rfl⟩
  · exact .int i t
  · exact .str x t
section
variable {X : Cx} {pins : List (Addr × Obj)} {σ : L2.St} {H : Hp} {s : Shared}
theorem dct_reads (I : Inv X pins σ H s) {a : Addr} {kvs : List (Key × V)} {es : List (PyData × PyData)} (e : H a = some (.dK kvs)) (x : DctE kvs es) : ∃ as, Reads s.heap (.ref a) (.dict es) as ∧ sysModules ∉ as := by
  obtain ⟨_, ns, vs, kv, D⟩ := I.hok a _ e
  have na : sysModules ≠ a := fun z => by
    rw [← z] at ns
    exact absurd ns (by simp)
  cases x with
  | none =>
    cases kv
    exact ⟨[a], PyProof.V.reads_dictOf (enc := encK) encK_reads D .nil, by simp; exact na⟩
  | one =>
    cases kv with
    | cons h1 h2 =>
      cases h2
      rename_i q
      obtain ⟨k0, u0⟩ := q
      obtain ⟨ek, rv⟩ := h1
      have ek : (.inl 0 : Key) = k0 := ek
      obtain ⟨t, eu⟩ := (show ∃ t, u0 = Value.int 1 t from rv)
      subst ek
      subst eu
      have r := PyProof.V.reads_dictOf (enc := encK) encK_reads D (.cons (.int 1 t) .nil)
      exact ⟨_, r, by simp; exact na⟩
mutual
theorem Dq.reads (I : Inv X pins σ H s) : ∀ (d : PyData) (v : V) (u : Value), Dq H v d → RelV v u → ∃ as, Reads s.heap u d as ∧ sysModules ∉ as
  | .none, _, _, h, r => by
    cases h
    cases r
    exact ⟨[], .none, List.not_mem_nil⟩
  | .bool b, _, _, h, r => by
    cases h
    cases r
    exact ⟨[], .bool b, List.not_mem_nil⟩
  | .int i, _, _, h, r => by
    cases h
    obtain ⟨t, rfl⟩ := r
    exact ⟨[], .int i t, List.not_mem_nil⟩
  | .str x, _, _, h, r => by
    cases h
    obtain ⟨t, rfl⟩ := r
    exact ⟨[], .str x t, List.not_mem_nil⟩
  | .list ds, _, _, h, r => by
    cases h with
    | lst e big ha =>
      cases r
      obtain ⟨its, rv, ⟨o, n, ho, hc, _, hd⟩, _⟩ := I.list (SqL.of e)
      obtain ⟨as, hr, hn⟩ := Dq.readsAll I ds _ its ha rv
      refine ⟨_, .list ho hc hd hr, fun z => ?_⟩
      rcases List.mem_cons.mp z with z | z
      · exact absurd big (by rw [← z]; exact Nat.lt_irrefl _)
      · exact hn z
  | .tuple ds, _, _, h, r => by
    cases h with
    | tup e ha =>
      cases r
      obtain ⟨its, rv, ⟨o, ho, hc, n, hd⟩, _⟩ := I.tuple (SqT.of e)
      obtain ⟨as, hr, hn⟩ := Dq.readsAll I ds _ its ha rv
      exact ⟨_, .tuple ho hc hd hr, hn⟩
  | .dict es, _, _, h, r => by
    cases h with
    | dct e x =>
      cases r
      exact dct_reads I e x
theorem Dq.readsAll (I : Inv X pins σ H s) : ∀ (ds : List PyData) (vs : List V) (us : List Value), DqAll H vs ds → Vals vs us → ∃ as, ReadsAll s.heap us ds as ∧ sysModules ∉ as
  | [], _, _, h, r => by
    cases h
    cases r
    exact ⟨[], .nil, List.not_mem_nil⟩
  | d :: ds, _, _, h, r => by
    cases h with
    | cons h1 h2 =>
      cases r with
      | cons r1 r2 =>
        obtain ⟨as, a1, a2⟩ := Dq.reads I d _ _ h1 r1
        obtain ⟨bs, b1, b2⟩ := Dq.readsAll I ds _ _ h2 r2
        exact ⟨_, .cons a1 b1, fun z => (List.mem_append.mp z).elim a2 b2⟩
end
def rReprQ : List V → Hp → VK → Prop := fun xs H Q => ∃ (v : V) (d : PyData), xs = [v] ∧ Dq H v d ∧ d.showable = true ∧ d.depth ≤ 60 ∧ d.shown.length ≤ sizeLine ∧ Q (.str d.shown) H
theorem call_repr_Q (hg : X.A.guards = some []) (hu : X.A.units + 64 < cLine) : CallR X (.builtin "repr") rReprQ := by
  intro pins s σ H xs us Q I r h
  obtain ⟨v, d, rfl, dq, sh, dd, sz, q⟩ := h
  obtain ⟨u, rfl, r1⟩ := vals1 r
  have deep : ∀ a, u = .ref a → wpAny (model X.prog X.w) X.A (call (.builtin "repr") [u]) (EP X pins σ Q) X.xe s := fun a e => by
    obtain ⟨as, hr, hn⟩ := Dq.reads I d v u dq r1
    rw [e] at hr ⊢
    exact repr_of_reads' hr sh (fun _ => hn) hg (by omega) (fun _ _ e => e) (fun h' u tk hk => ⟨.str d.shown, H, I.kept hk, ⟨u, rfl⟩, q⟩) sz
  cases dq with
  | non =>
    cases r1
    exact PySem.P.repr_of_none ⟨.str _, H, I.tok _, ⟨_, rfl⟩, q⟩
  | bl b =>
    cases r1
    exact PySem.P.repr_of_bool ⟨.str _, H, I.tok _, ⟨_, rfl⟩, q⟩
  | int i =>
    obtain ⟨t, rfl⟩ := r1
    exact PySem.P.repr_of_int (of_decide_eq_true sh) ⟨.str _, H, I.tok _, ⟨_, rfl⟩, q⟩
  | str x =>
    obtain ⟨t, rfl⟩ := r1
    exact PySem.P.repr_of_str ⟨.str _, H, I.tok _, ⟨_, rfl⟩, q⟩ sz
  | lst e n hs => exact deep _ r1
  | tup e hs => exact deep _ r1
  | dct e x => exact deep _ r1
end
end My
namespace My
open PySem PySem.Spec PyProof.Rows L2
/-! ### told lists are compared -/
mutual
theorem Dq.dp {K : PySem.W.Frag} {H : Hp} : ∀ {v : V} {d : PyData}, Dq H v d → d.hasDict = false → Dp K H v d
  | _, _, .non, _ => .non
  | _, _, .bl b, _ => .bl b
  | _, _, .int i, _ => .int i
  | _, _, .str x, _ => .str x
  | _, _, .lst e _ hs, n => .lst (SqL.of e) (DqAll.dp hs n)
  | _, _, .tup e hs, n => .tup (SqT.of e) (DqAll.dp hs n)
  | _, _, .dct _ _, n => by cases n
theorem DqAll.dp {K : PySem.W.Frag} {H : Hp} : ∀ {vs : List V} {ds : List PyData}, DqAll H vs ds → PyData.hasDictAll ds = false → DpAll K H vs ds
  | _, _, .nil, _ => .nil
  | _, _, .cons h hs, n => by
    have n' : (PyData.hasDict _ || PyData.hasDictAll _) = false := n
    rw [Bool.or_eq_false_iff] at n'
    exact .cons (Dq.dp h n'.1) (DqAll.dp hs n'.2)
end
/-- data that can be compared, of a depth -/
structure Lay (k : Nat) (d : PyData) : Prop where
  can : d.canLay0 = true
  dep : d.depth ≤ k
  nod : d.hasDict = false
structure LayAll (k : Nat) (ds : List PyData) : Prop where
  can : PyData.canLayAll0 ds = true
  dep : PyData.depthAll ds ≤ k
  nod : PyData.hasDictAll ds = false
theorem LayAll.nil {k : Nat} : LayAll k [] := ⟨rfl, Nat.zero_le _, rfl⟩
theorem LayAll.cons {k : Nat} {d : PyData} {ds : List PyData} (h : Lay k d) (t : LayAll k ds) : LayAll k (d :: ds) := by
  refine ⟨?_, ?_, ?_⟩
  · show (d.canLay0 && PyData.canLayAll0 ds) = true
    rw [h.can, t.can]; rfl
  · show max d.depth (PyData.depthAll ds) ≤ k
    exact Nat.max_le.mpr ⟨h.dep, t.dep⟩
  · show (d.hasDict || PyData.hasDictAll ds) = false
    rw [h.nod, t.nod]; rfl
theorem LayAll.of {k : Nat} : ∀ {ds : List PyData}, (∀ d ∈ ds, Lay k d) → LayAll k ds
  | [], _ => .nil
  | _ :: _, h => .cons (h _ List.mem_cons_self) (.of fun d hd => h d (List.mem_cons_of_mem _ hd))
theorem LayAll.list {k : Nat} {ds : List PyData} (h : LayAll k ds) : Lay (k + 1) (.list ds) := ⟨h.can, Nat.succ_le_succ h.dep, h.nod⟩
theorem LayAll.tuple {k : Nat} {ds : List PyData} (h : LayAll k ds) : Lay (k + 1) (.tuple ds) := ⟨h.can, Nat.succ_le_succ h.dep, h.nod⟩
theorem Lay.up {k m : Nat} {d : PyData} (h : Lay k d) (l : k ≤ m) : Lay m d := ⟨h.can, Nat.le_trans h.dep l, h.nod⟩
theorem Lay.shaped {k : Nat} {d : PyData} (h : Lay k d) (l : k ≤ 64) : SeqAt.shaped d = true := by
  show (d.canLay0 && decide (d.depth ≤ 64)) = true
  rw [h.can, decide_eq_true (Nat.le_trans h.dep l)]
  rfl
theorem eqv_same {d : PyData} (h : SeqAt.shaped d = true) : PyData.eqv d d = true := SeqAt.eqv_refl d (SeqAt.canLay_of_shaped h)
theorem lay_word {d : PyData} (h : wordD d = true) : Lay 0 d := by
  obtain ⟨x, e, _⟩ := word_str h
  have q := (word_fit h x e).2
  rw [e]
  exact ⟨q, Nat.le_refl _, rfl⟩
theorem lay_third {d : PyData} (h : noneD d = true ∨ wordD d = true) : Lay 0 d := by
  rcases h with h | h
  · cases d with
    | none => exact ⟨rfl, Nat.le_refl _, rfl⟩
    | bool _ => cases h
    | int _ => cases h
    | str _ => cases h
    | list _ => cases h
    | tuple _ => cases h
    | dict _ => cases h
  · exact lay_word h
theorem good_leaves : ∀ (n : Nat) (d : PyData), goodF n d → LayAll 0 (leavesF n d)
  | 0, _, h => h.elim
  | n + 1, d, h => by
    rcases h with h | ⟨hf, h0, h1, _⟩
    · obtain ⟨x, e, _⟩ := word_str h
      have l : leavesF (n + 1) d = [d] := by rw [e]; rfl
      rw [l]
      exact .cons (lay_word h) .nil
    · have l : leavesF (n + 1) d = leavesF n (nthD d 0) ++ leavesF n (nthD d 1) := if_pos hf
      rw [l]
      exact app (good_leaves n _ h0) (good_leaves n _ h1)
where
  app : ∀ {k : Nat} {ds es : List PyData}, LayAll k ds → LayAll k es → LayAll k (ds ++ es)
    | _, [], _, _, h => h
    | k, d :: ds, es, h, h' => by
      have c : (d.canLay0 && PyData.canLayAll0 ds) = true := h.can
      have dp : max d.depth (PyData.depthAll ds) ≤ k := h.dep
      have nd : (d.hasDict || PyData.hasDictAll ds) = false := h.nod
      rw [Bool.and_eq_true] at c
      rw [Bool.or_eq_false_iff] at nd
      exact .cons ⟨c.1, (Nat.max_le.mp dp).1, nd.1⟩ (app ⟨c.2, (Nat.max_le.mp dp).2, nd.2⟩ h')
theorem good_forks : ∀ (n : Nat) (d : PyData), goodF n d → LayAll 2 (forksF n d)
  | 0, _, h => h.elim
  | n + 1, d, h => by
    rcases h with h | ⟨hf, h0, h1, h2⟩
    · have l : forksF (n + 1) d = [] := if_pos (word_no_fork h)
      rw [l]
      exact .nil
    · have l : forksF (n + 1) d = [.tuple [nthD d 2, .tuple (leavesF n (nthD d 0)), .tuple (leavesF n (nthD d 1))]] ++ forksF n (nthD d 0) ++ forksF n (nthD d 1) := if_neg (by rw [hf]; exact fun z => Bool.noConfusion z)
      rw [l]
      refine good_leaves.app (good_leaves.app (.cons (LayAll.tuple (.cons ((lay_third h2).up (by decide)) (.cons (good_leaves n _ h0).tuple (.cons (good_leaves n _ h1).tuple .nil)))) .nil) (good_forks n _ h0)) (good_forks n _ h1)
/-- what is told of a drawn tree: the lists of its leaves and forks -/
theorem told_shaped {n : Nat} {d : PyData} (h : goodF n d) : Lay 4 (.list [.list (leavesF n d), .list (forksF n d)]) :=
  LayAll.list (.cons ((good_leaves n d h).list.up (by decide)) (.cons (good_forks n d h).list .nil))
end My
namespace My
open PySem PySem.Spec PyProof.Rows L2
/-! ### a law whose def makes code objects: its table stands in the heap from the entry -/
/-- the def at f has its code object at c -/
def CodeAt (K : PySem.W.Frag) (f c : Addr) : Prop := ∃ (oc : Value) (od : Option Addr) (fd : FuncData) (sl : Array (Option Value)), K.lookup f = some ⟨oc, od, .func fd, sl⟩ ∧ fd.code = .ref c
section
variable {P : Program} {w : World} {K : PySem.W.Frag} {mg : Str → Option Value} {base : Heap}
theorem FnG.ofC {x qual : Str} {st : Stmt} {f c : Addr} {fd : FuncData} {N ps : List Str} {k : Nat} {sp : Sp} (F : Fun K x qual st f fd) (hc : CodeAt K f c) (S : FnScope N ps (defScope st)) (len : ∀ vs H Q E, sp vs H Q E → vs.length = ps.length)
    (body : ∀ (A : Around) (outer : List Env) (s : Shared) (H : Hp) (vs : List V) (Q : VK) (E : XK), A.guards = some [] → Room k (A.deeper (envOfC qual (defScope st) s.heap.objs.size f (.ref c))) → sp vs H Q E →
      ∃ t, PSs (cxOf CX0 P w K mg base N qual (defScope st) f (.ref c) A outer s H E).nox (defBody st) t ∧ t { nx := fun _ H' => Q .non H', rt := Q } (start N vs) H) :
    FnG P w K mg base (k + 1) f fd ps sp := by
  obtain ⟨oc, od, kV, doc, pm, an, cdv, ct, osl, rfl, lk, hcd⟩ := F.ex
  have ec : cdv = .ref c := by
    obtain ⟨_, _, fd', _, l2, e2⟩ := hc
    rw [lk] at l2
    injection l2 with l3
    injection l3 with _ _ l4 _
    injection l4 with l5
    rw [← l5] at e2
    exact e2
  subst ec
  refine ⟨len, fun A hg hr outer s H e0 args us hb vs r Q E hsp => ?_⟩
  have KX : K.In s.heap := e0.mod.kin.keeps fun b o q => (e0.bs b o q).1
  have nl : s.heap.NoLimit := e0.mod.nolimit.keeps fun b o q => (e0.bs b o q).1
  have kinds : ∀ y ∈ ps.zip us, (defScope st).names.lookup y.1 = some .local ∨ ((defScope st).names.lookup y.1 = some .cell ∧ ((cellsFrom (s.heap.objs.size + 1) (defScope st).names []).lookup y.1).isSome = true) := by
    rintro ⟨n, v⟩ hy
    have q := S.par n (List.of_mem_zip hy).1
    exact q.imp id fun q => ⟨q, PySem.W.cellsFrom_some _ _ _ (.inl q)⟩
  refine codeAny_call_function hr.depth (KX _ _ lk) rfl S.co S.gen rfl (PySem.W.codeRec_of KX hcd) (hb _ _ _ _ (wpAny_newFunctionEnv_cells S.kind kinds fun env he s1 x => ?_))
  subst he
  refine ⟨nl.keeps x.toInCall.keep, codeAny_func ?_⟩
  obtain ⟨t, ht, hq⟩ := body A outer s H vs Q E hg (hr.deeper _) hsp
  have I : Inv (cxOf CX0 P w K mg base N qual (defScope st) f (.ref c) A outer s H E) [] (start N vs) H s1 := inv_start S hr.hd e0 (len _ _ _ _ hsp) r x
  refine wpAny_mono (ht.nox.run [] s1 (start N vs) H _ I hq) (fun fl s' hs => ?_) (fun e s' hs => hs)
  have last : ∀ {σ' : L2.St} {H' : Hp} {v : V} {u : Value}, Inv (cxOf CX0 P w K mg base N qual (defScope st) f (.ref c) A outer s H E) [] σ' H' s' → RelV v u → Q v H' → CE outer P w H s Q u s' := fun J rv q => ⟨_, _, J.os, J.bare, J.base, J.hok, rv, q⟩
  rcases fl with _ | _ | _ | u
  all_goals first
    | (obtain ⟨v, σ', H', J, rv, q⟩ := hs; exact last J rv q)
    | (obtain ⟨σ', H', J, q⟩ := hs; exact last (v := V.non) (u := Value.none) J rfl q)
    | (obtain ⟨_, _, _, q⟩ := hs; exact False.elim q)
/-- the law's def, its table at p empty when it is called -/
theorem law_runT {k : Nat} {fa a c p : Addr} {fd : FuncData} {x : Str} {sp : Sp} {mb : Str → Option Value} {s₁ : Shared} {vs : List Value} {ns : List Int}
    (KX : K.In s₁.heap) (hns : s₁.heap.Ns mainGlobals mg) (hb : s₁.heap.Ns builtinsNs mb) (hbb : ∀ x : Str, x ≠ "__name__" → mb x = bootBuiltins x) (nl : s₁.heap.NoLimit) (hg : s₁.gens = #[])
    (tp : s₁.heap.get? p = some (PySem.W.tabObj #[])) (np : K.lookup p = none) (cp : PySem.W.CodeHd s₁.heap c p)
    (bmain : ∃ (m : Addr) (o : Obj), mg "__builtins__" = some (.ref m) ∧ m ≠ builtinsNs ∧ s₁.heap.get? m = some o ∧ o.cls = .type "module" ∧ o.dict = some builtinsNs ∧ o.data = .plain)
    (ha : s₁.heap.get? a = some { cls := .type "list", data := .seq vs.toArray }) (hi : IntsAre vs ns) (hl : ns.length ≤ sizeLine) (hr : Room k callerA)
    (F : ∀ base : Heap, K.In base → base.Ns mainGlobals mg → LamX.TabB base mg c p → FnG P w K mg base k fa fd [x] sp) (bind : ∀ (s : Shared) (u : Value), BindsTo s fd ⟨[u], []⟩ [(x, u)])
    (hsp : ∀ H : Hp, H p = some (.tbl #[]) → SqL K H a (ns.map V.int) → sp [.ref a] H (fun v _ => v = .bl true) fun _ _ _ => False) :
    codeAny (model P w) callerA (.call (.ref fa) ⟨[.ref a], []⟩) (fun r s' => r = .ok (.ret (.bool true)) ∧ OldK s₁.heap s'.heap ∧ s'.os = s₁.os ∧ AllBare s'.gens) s₁ := by
  have rv := vals_ints hi
  have lv := hi.length
  have ap : a ≠ p := fun z => by
    rw [z, tp] at ha
    cases ha
  have core : ∀ H : Hp, H p = some (.tbl #[]) ∧ (∀ b, b ≠ p → H b = none ∨ ∃ o xs, H b = some (.frz o (.lst xs))) ∧ SqL K H a (ns.map V.int) ∧ HOk P w H s₁.heap ∧ (∀ b, b ≠ p → H b ≠ none → b = a) ∧ (H a ≠ none → K.lookup a = none) →
      codeAny (model P w) callerA (.call (.ref fa) ⟨[.ref a], []⟩) (fun r s' => r = .ok (.ret (.bool true)) ∧ OldK s₁.heap s'.heap ∧ s'.os = s₁.os ∧ AllBare s'.gens) s₁ := by
    rintro H ⟨hp, hO, hS, hok, hA, hK⟩
    have no : ∀ {b : Addr}, b ≠ a → b ≠ p → H b = none := fun {b} n n2 => by
      cases q : H b with
      | none => rfl
      | some u => exact absurd (hA b n2 fun z => by rw [q] at z; cases z) n
    have stays : ∀ {b : Addr} {o : Obj}, s₁.heap.get? b = some o → (∀ ys n, o.data ≠ .seq ys n) → o.data ≠ .fields #[] → (hidT s₁.heap H).get? b = some o := fun {b o} e d1 d2 => by
      refine hidT_get e (no (fun z => ?_) fun z => ?_)
      · rw [z, ha] at e
        have e' := Option.some.inj e
        exact d1 _ _ (by rw [← e'])
      · rw [z, tp] at e
        have e' := Option.some.inj e
        exact d2 (by rw [← e'])
    have dicts : ∀ {b : Addr} {o : Obj} {es : Array DictEntry} {ep : Nat}, s₁.heap.get? b = some o → o.data = .dict es ep → (hidT s₁.heap H).get? b = some o := fun e d => stays e (fun _ _ z => by rw [d] at z; cases z) fun z => by rw [d] at z; cases z
    have nsK : ∀ {b : Addr} {m : Str → Option Value}, s₁.heap.Ns b m → (hidT s₁.heap H).Ns b m := fun z => by
      obtain ⟨o, es, ep, e, d, r⟩ := z
      exact ⟨o, es, ep, dicts e d, d, r⟩
    have inK : K.In (hidT s₁.heap H) := fun b o e => by
      refine hidT_get (KX b o e) ?_
      by_cases hb : b = a
      · cases q : H b with
        | none => rfl
        | some u =>
          have z := hK (by rw [← hb, q]; exact fun z => nomatch z)
          rw [hb, z] at e
          cases e
      · refine no hb fun z => ?_
        rw [z, np] at e
        cases e
    obtain ⟨o0, es0, ep0, g1, g2, _⟩ := id hns
    have gp : mainGlobals ≠ p := fun z => by
      rw [z, tp] at g1
      have e' := Option.some.inj g1
      rw [← e'] at g2
      cases g2
    have tb : LamX.TabB (hidT s₁.heap H) mg c p := by
      refine ⟨?_, ?_, gp⟩
      · obtain ⟨o, us, f1, f2, f3, f4, f5, f6, f7, e1, r1, r2, r3, r⟩ := cp
        refine ⟨o, us, f1, f2, f3, f4, f5, f6, f7, stays e1 (fun _ _ z => by rw [r2] at z; cases z) (fun z => ?_), r1, r2, r3, r⟩
        rw [r2] at z
        have z' := Data.fields.inj z
        rw [z'] at r3
        cases r3
      · obtain ⟨m, o, b1, b2, b3, b4, b5, b6⟩ := bmain
        refine ⟨m, o, b1, b2, fun z => ?_, fun z => ?_, stays b3 (fun _ _ z => by rw [b6] at z; cases z) (fun z => by rw [b6] at z; cases z), b4, b5, b6⟩
        · rw [z, g1] at b3
          have e' := Option.some.inj b3
          rw [← e', g2] at b6
          cases b6
        · rw [z, tp] at b3
          have e' := Option.some.inj b3
          rw [← e'] at b6
          cases b6
    obtain ⟨mc, c1, c2⟩ := nl
    have e0 : Env0 P w K mg (hidT s₁.heap H) callerA [] s₁ H :=
      { frames := rfl, mod := ⟨inK, nsK hns, ⟨mb, nsK hb, hbb⟩, ⟨mc, nsK c1, c2⟩⟩, bs := fun b o e => of_hidT e, bsz := Nat.le_of_eq (hidT_size _ _), funs := trivial, frf := fun b z => absurd z List.not_mem_nil, hok := hok, bare := .of_eq hg }
    refine codeAny_mono ((F _ inK (nsK hns) tb).run callerA rfl hr [] s₁ H e0 ⟨[.ref a], []⟩ [.ref a] (bind s₁ (.ref a)) [.ref a] (.cons rfl .nil) _ _ (hsp H hp hS)) fun r s' h => ?_
    rcases r with e | fl
    · exact False.elim h
    rcases fl with _ | _ | _ | u
    all_goals first
      | exact False.elim h
      | skip
    obtain ⟨v, H', os, bare, un, hok', r', q⟩ := h
    have q' : v = .bl true := q
    rw [q'] at r'
    have r2 : u = Value.bool true := r'
    have keep : ∀ b o, b ≠ p → s₁.heap.get? b = some o → s'.heap.get? b = some o := fun b o nb e => by
      rcases hO b nb with z | ⟨ob, xs, z⟩
      · exact un.keep b o e z List.not_mem_nil List.not_mem_nil
      · have z1 := (hok b _ z).1
        have z2 := (hok' b _ (un.frzs b ob _ z)).1
        rw [e] at z1
        cases z1
        exact z2
    have grown : ∃ more : Array Value, s'.heap.get? p = some { cls := .none, data := .fields more } := by
      obtain ⟨more, z⟩ := un.tbls p #[] hp
      exact ⟨_, hok' p _ z⟩
    refine ⟨by rw [r2], ⟨fun b o e => ?_, fun b o e => ?_⟩, os, bare⟩
    · by_cases hbp : b = p
      · obtain ⟨more, hm⟩ := grown
        subst hbp
        rw [tp] at e
        cases e
        exact .inr (.inl ⟨(cp.tab tp).isCodeTable, rfl, #[], more, rfl, by rw [Array.empty_append]; exact hm⟩)
      · exact .inl (keep b o hbp e)
    · by_cases hbp : b = p
      · obtain ⟨more, hm⟩ := grown
        rw [hbp]
        exact ⟨_, hm⟩
      · exact ⟨o, keep b o hbp e⟩
  cases hk : K.lookup a with
  | some o =>
    have e := KX a o hk
    rw [ha] at e
    cases e
    have at_ : ∀ {b : Addr} {u : HO}, upd (fun _ => none) p (.tbl #[]) b = some u → b = p ∧ u = .tbl #[] := fun {b u} z => by
      by_cases h : b = p
      · rw [h, upd_same] at z; exact ⟨h, (Option.some.inj z).symm⟩
      · rw [upd_ne h] at z; cases z
    refine core (upd (fun _ => none) p (.tbl #[])) ⟨upd_same, fun b n => .inl (upd_ne n), .inr ⟨_, vs.toArray, _, hk, rfl, rfl, rfl, by rw [List.size_toArray, lv]; exact hl, by simpa using rv⟩, fun b u z => ?_, fun b n z => absurd (upd_ne n) z, fun z => absurd (upd_ne ap) z⟩
    obtain ⟨rfl, rfl⟩ := at_ z
    exact tp
  | none =>
    have eA : upd (upd (fun _ => none) a (.frz { cls := .type "list", data := .seq vs.toArray } (.lst (ns.map V.int)))) p (.tbl #[]) a = some (.frz { cls := .type "list", data := .seq vs.toArray } (.lst (ns.map V.int))) := by
      rw [upd_ne ap, upd_same]
    refine core (upd (upd (fun _ => none) a (.frz { cls := .type "list", data := .seq vs.toArray } (.lst (ns.map V.int)))) p (.tbl #[])) ⟨upd_same, fun b n => ?_, .inl (.inr ⟨_, eA⟩), fun b u z => ?_, fun b n z => ?_, fun _ => hk⟩
    · rw [upd_ne n]
      by_cases h : b = a
      · rw [h, upd_same]; exact .inr ⟨_, _, rfl⟩
      · rw [upd_ne h]; exact .inl rfl
    · by_cases h : b = p
      · rw [h, upd_same] at z
        cases z
        rw [h]
        exact tp
      · rw [upd_ne h] at z
        by_cases h2 : b = a
        · rw [h2, upd_same] at z
          cases z
          rw [h2]
          exact ⟨ha, by rw [List.length_map]; exact hl, vs, _, rv, ha⟩
        · rw [upd_ne h2] at z
          cases z
    · rw [upd_ne n] at z
      by_cases h2 : b = a
      · exact h2
      · exact absurd (upd_ne h2) z
end
/-- the walk's goal from the promise of a law whose def makes code objects -/
theorem walk_ofT {l : PySem.W.OpenLaw} {n k : Nat} {q : Program} {loose : List Str} {XP : (Str → Option Value) → Heap → Prop} {YP : World → Heap → Prop} {d : DefRec} {K : Params → PySem.W.Frag} {p : Addr} {sp : World → Sp} {x : Str}
    (hn : l.most = some n) (hn2 : n ≤ sizeLine) (hdf : d.params.defaults = []) (hr : Room k callerA) (hY : ∀ (w : World) (h : Heap), YP w h → (K w.params).In h ∧ h.get? p = some (PySem.W.tabObj #[]))
    (F : ∀ (w : World) (mg : Str → Option Value) (fa : Addr) (h : Heap), (K w.params).In h → h.Ns mainGlobals mg → mg d.name = some (.ref fa) → ∃ (fd : FuncData) (c : Addr), (K w.params).lookup p = none ∧ PySem.W.CodeHd h c p ∧ (∀ (s : Shared) (u : Value), BindsTo s fd ⟨[u], []⟩ [(x, u)]) ∧
      ∀ base : Heap, (K w.params).In base → base.Ns mainGlobals mg → LamX.TabB base mg c p → FnG l.prog w (K w.params) mg base k fa fd [x] (sp w))
    (hsp : ∀ (w : World) (H : Hp) (a : Addr) (ns : List Int), ns.length ≤ n → H p = some (.tbl #[]) → SqL (K w.params) H a (ns.map V.int) → sp w [.ref a] H (fun v _ => v = .bl true) fun _ _ _ => False) :
    PySem.W.WalkO q loose XP YP l.row.toRowW d [] (fun f vs => PySem.call f vs) :=
  Att.attach_call hn hdf fun w s₀ s₁ mg mb fa o pm cd doc a vs ns G Y _ _ _ hmg ho hi hlen hg => by
    obtain ⟨KX, tp⟩ := hY w _ Y
    obtain ⟨fd, c, np, cp, b, hF⟩ := F w mg fa _ KX G.T.g hmg
    exact law_runT KX G.T.g G.T.b G.T.builtins G.T.nolimit hg tp np cp G.T.bmain ho hi (Nat.le_trans hlen hn2) hr hF b fun H hp hS => hsp w H a ns hlen hp hS
end My
namespace My
open PySem PySem.Spec PyProof.Rows L2 LamX
/-! ### calls that are refused -/
theorem takes_len {X : Cx} {W : WX} (t : Takes X W) : Takes X (fun cls d σ H => σ.length = X.N.length → W cls d σ H) := fun u s' z => by
  obtain ⟨a, B, sI, pins, σ, H, cls, d, e, I, nb, up, sky, na, os, ag, w⟩ := z
  exact t u s' ⟨a, B, sI, pins, σ, H, cls, d, e, I, nb, up, sky, na, os, ag, w I.len⟩
/-- the path with which a call is refused, in a list, or none -/
def TRef (C : Addr) : (XK → Hp → VK → Prop) → Hp → VK → Prop := fun tl H Q => ∀ p0, H p0 = none →
  tl (fun cls d H' => ∃ (dx : Addr) (v : V), cls = .ref C ∧ d = some dx ∧ H' dx = some (.xd [("path", v)]) ∧ ∀ p1, H' p1 = none → Q (.ref p1) (L2.upd H' p1 (.lst [v]))) (L2.upd H p0 (.lst [])) (fun _ H' => Q (.ref p0) H')
section
variable {X : Cx}
theorem refused_gives (T : Tx X.K X.mg) {g : Addr} {cdg : Value} {q : Str} : GivesTo X ["_law_call", "_law_found", "e"] "_law_refused" (defScope s_law_refused) g cdg (defBody s_law_refused) "_law_call" q (TRef T.e_BadTree.C) := by
  intro f c' s H Q tl act hc h
  refine ⟨_, pss_cons (ps_set (i := 1) sc_law_refused.nd rfl (Or.inl rfl) (pe_lst pa_nil)) (pss_cons (ps_try_as (i := 2)
      (tb := fun W D σ H => ∃ Ech : XK, (∀ cls d σ' H', Ech cls d H' → σ'.length = 3 → W cls d σ' H') ∧ σ[0]? = some (some (.ref f)) ∧ H c' = some (CodeO c' q) ∧ tl Ech H (fun _ H' => D.nx σ H'))
      (ts := fun a cls d => tAsg (tLst (tCons (tXf a cls d T.e_BadTree.C "path" (tVar 2)) tNil)) (gName 1)) (Wout := fun _ _ _ _ => False)
      rfl rfl sc_law_refused.nd rfl rfl ⟨rfl, by decide, Or.inl T.e_BadTree.m⟩ L2.takes0 (fun W pn xe tk _ => ?_)
      (fun a oe cls d pn hz hf => pss_one (ps_set (i := 1) sc_law_refused.nd rfl (Or.inl rfl) (pe_lst (pa_cons (pe_xf T.e_BadTree.xf T.e_BadTree.noF hz hf (pv 2)) pa_nil))))) (pss_one (ps_ret (pv 1)))), ?_⟩
  · refine ⟨fun pins s' σ H' D I h' => ?_⟩
    obtain ⟨Ech, hW, h1, h2, h3⟩ := h'
    exact (pss_one (ps_expr (act (fun cls d σ' H' => σ'.length = 3 → W cls d σ' H') pn xe Ech _ _ (takes_len tk) (fun cls d σ' H' e l => hW cls d σ' H' e l)))).run pins s' σ H' D I ⟨h1, h2, h3⟩
  · refine ⟨Nat.zero_le _, fun p0 h0 => ?_⟩
    have hh := h p0 h0
    have eQ : (fun (_ : V) (H' : Hp) => Q (.ref p0) H') = fun (_ : V) (H' : Hp) => ∃ v, (some (some (V.ref p0)) : Option (Option V)) = some (some v) ∧ Q v H' := by
      funext _ H'
      refine propext ⟨fun z => ⟨_, rfl, z⟩, fun ⟨v, e, z⟩ => ?_⟩
      cases e
      exact z
    rw [eQ] at hh
    refine ⟨_, fun cls d σ' H' e l => ?_, rfl, (by rw [upd_ne (ne_of_none hc h0)]; exact hc), (show tl (fun cls d H' => ∃ (dx : Addr) (v : V), cls = .ref T.e_BadTree.C ∧ d = some dx ∧ H' dx = some (.xd [("path", v)]) ∧ ∀ p1, H' p1 = none → Q (.ref p1) (L2.upd H' p1 (.lst [v]))) (L2.upd H p0 (.lst [])) _ from ?_)⟩
    rotate_left
    · exact hh
    obtain ⟨dx, v, rfl, rfl, ex, k⟩ := e
    obtain ⟨x0, x1, x2, rfl⟩ : ∃ x0 x1 x2, σ' = [x0, x1, x2] := match σ', l with
      | [x0, x1, x2], _ => ⟨x0, x1, x2, rfl⟩
    refine ⟨true, T.e_BadTree.te, fun _ a ha => ?_, fun z => Bool.noConfusion z⟩
    refine ⟨_, rfl, rfl, rfl, dx, _, _, rfl, ex, by simp [List.lookup]; rfl, (by show 1 ≤ sizeLine; decide), fun p1 h1 => ?_⟩
    exact ⟨_, rfl, k p1 h1⟩
theorem pe_ref {c P : Addr} {k : Nat} {params : Arguments} {body : Expr} {scope : Scope} {t : XK → TE} {p lpos pos : Pos} (T : Tx X.K X.mg) (hg : Gl X "_law_refused") (TB : TabB X.base X.mg c P) (hcode : X.env.code = .ref c) (hr : Room (k + 2) X.A) (L : LamS X.env.scope scope) (hdef : defaultsOf params X.env = ([], []))
    (hbind : ∀ (q : Str) (cl : List (Str × Addr)) (pm cv ctv : Value), bindArgs (PySem.W.kla_fn "<lambda>" q params body scope cl pm cv ctv) ⟨[], []⟩ = pure [])
    (hbody : ∀ (A : Around) (outer : List Env) (s : Shared) (H : Hp) (E : XK) (f c' : Addr), Room k (A.deeper (lamEnv X scope s.heap.objs.size f c')) → PE (lamCx X A outer s H E scope f c') body (t E)) :
    PE X (.Call (.Name "_law_refused" p) [.Lambda params body scope lpos] [] pos) (tLam [(P, X.env.qual ++ "<lambda>")] (TRef T.e_BadTree.C) t) := by
  obtain ⟨oc, od, kV, doc, pm, an, cdv, ct, osl, efd, lk, hcd⟩ := T.F_law_refused.ex
  have hb := T.b_law_refused
  rw [efd] at lk hb
  exact pe_lamcall hg T.m_law_refused T.F_law_refused.kp lk hcd hb sc_law_refused rfl (.inl rfl) (refused_gives T) TB hcode (List.mem_singleton.mpr rfl) (fun q hq _ => by rw [List.mem_singleton.mp hq]) hr L hdef hbind hbody
end
/-! ### what stays behind a call with a lambda -/
mutual
theorem Dq.ext {H H' : Hp} (e : ExtN H H') : ∀ {v : V} {d : PyData}, Dq H v d → Dq H' v d
  | _, _, .non => .non
  | _, _, .bl b => .bl b
  | _, _, .int i => .int i
  | _, _, .str x => .str x
  | _, _, .lst h n hs => .lst (e _ _ h (fun _ z => nomatch z)) n (DqAll.ext e hs)
  | _, _, .tup h hs => .tup (e _ _ h (fun _ z => nomatch z)) (DqAll.ext e hs)
  | _, _, .dct h x => .dct (e _ _ h (fun _ z => nomatch z)) x
theorem DqAll.ext {H H' : Hp} (e : ExtN H H') : ∀ {vs : List V} {ds : List PyData}, DqAll H vs ds → DqAll H' vs ds
  | _, _, .nil => .nil
  | _, _, .cons h hs => .cons (Dq.ext e h) (DqAll.ext e hs)
end
theorem cut_ext {s c : Addr} {H H' : Hp} (e : ExtN H H') : ExtN (cutH s c H) (cutH s c H') := fun b u h n => by
  have ⟨n1, n2, e1⟩ := cut_at' h
  exact cut_in ⟨n1, n2⟩ (e b u e1 n)
theorem Src.ext {s c : Addr} {H H' : Hp} (S : Src H s c) (e : ExtN H H') : Src H' s c := by
  obtain ⟨l, m, t, ns, h⟩ := S
  exact ⟨l, m, t, ns, e _ _ h.hs (fun _ z => nomatch z), e _ _ h.hc (fun _ z => nomatch z), h.l0, h.m0, h.m1, h.t0, h.n0, h.len⟩
theorem codeO_dK (c : Addr) (q : Str) (kvs : List (Key × V)) : CodeO c q ≠ .dK kvs := fun z => by unfold CodeO at z; cases z
theorem codeO_lst (c : Addr) (q : Str) (xs : List V) : CodeO c q ≠ .lst xs := fun z => by unfold CodeO at z; cases z
theorem tabs_go {L : List (Addr × Str)} {s c : Addr} {H H' : Hp} (t : Tabs L H) (S : Src H s c) (g : Go s c H H') : Tabs L H' := fun p hp => by
  obtain ⟨ps, h1, h2, h3⟩ := t p hp
  obtain ⟨_, _, _, _, S⟩ := S
  refine ⟨ps, g.keep _ _ (ne_of h1 S.hs (by intro z; cases z)) (ne_of h1 S.hc (by intro z; cases z)) h1, h2, fun pos cv hc => ?_⟩
  obtain ⟨c0, e1, e2⟩ := h3 pos cv hc
  exact ⟨c0, e1, g.keep _ _ (ne_of e2 S.hs (codeO_dK _ _ _)) (ne_of e2 S.hc (codeO_lst _ _ _)) e2⟩
/-! ### the answers -/
def ansD : Option (List Int) → PyData
  | none => .list []
  | some p => .list [.tuple (p.map .int)]
def Ans (H : Hp) (r : Addr) (o : Option (List Int)) : Prop := (o = none ∧ H r = some (.lst [])) ∨ ∃ p b, o = some p ∧ H r = some (.lst [.ref b]) ∧ H b = some (.tup (p.map V.int))
theorem dp_ints {K : PySem.W.Frag} {H : Hp} : ∀ p : List Int, DpAll K H (p.map V.int) (p.map .int)
  | [] => .nil
  | i :: p => .cons (.int i) (dp_ints p)
theorem Ans.dp {K : PySem.W.Frag} {H : Hp} {r : Addr} {o : Option (List Int)} (h : Ans H r o) : Dp K H (.ref r) (ansD o) := by
  rcases h with ⟨rfl, h⟩ | ⟨p, b, rfl, h1, h2⟩
  · exact .lst (SqL.of h) .nil
  · exact .lst (SqL.of h1) (.cons (.tup (SqT.of h2) (dp_ints p)) .nil)
theorem Ans.ext {H H' : Hp} {r : Addr} {o : Option (List Int)} (e : ExtN H H') (h : Ans H r o) : Ans H' r o := by
  rcases h with ⟨h0, h⟩ | ⟨p, b, h0, h1, h2⟩
  · exact .inl ⟨h0, e _ _ h (fun _ z => nomatch z)⟩
  · exact .inr ⟨p, b, h0, e _ _ h1 (fun _ z => nomatch z), e _ _ h2 (fun _ z => nomatch z)⟩
theorem ints_lay : ∀ p : List Int, LayAll 0 (p.map PyData.int)
  | [] => .nil
  | _ :: p => .cons ⟨rfl, Nat.zero_le _, rfl⟩ (ints_lay p)
theorem ans_lay (o : Option (List Int)) : Lay 2 (ansD o) := by
  cases o with
  | none => exact LayAll.list .nil
  | some p => exact LayAll.list (.cons (LayAll.tuple (ints_lay p)) .nil)
section
variable {L : List (Addr × Str)} {f : Nat → PyData → List PyData} {n m : Nat} {C : Addr} {H : Hp} {v : V} {d : PyData} {Q : Addr → Hp → Prop}
/-- what the lambda's call leads to -/
theorem top_ref (dq : Dq H v d) (fn : fitF n d) (hn : n ≤ 1000) (fm : checkF n d = none → fitF m d) (hm : m ≤ 20)
    (k : ∀ (H2 : Hp) (r : Addr), ExtN H H2 → Tabs L H2 → (∀ b o, H b = some o → (∀ ps, o ≠ .tbl ps) → b ≠ r) → Ans H2 r (checkF n d) → Q r H2)
    {H1 : Hp} (e1 : ExtN H H1) (t1 : Tabs L H1) (p0 : Addr) (h0 : H1 p0 = none) :
    spTop f n m C [v] (L2.upd H1 p0 (.lst [])) (fun _ H' => Q p0 H') (fun cls dd H' => ∃ (dx : Addr) (u : V), cls = .ref C ∧ dd = some dx ∧ H' dx = some (.xd [("path", u)]) ∧ ∀ p1, H' p1 = none → Q p1 (L2.upd H' p1 (.lst [u]))) := by
  have s0 := same_new h0 (.lst [])
  refine ⟨v, d, rfl, (dq.ext e1).same s0, fn, hn, fun en => ⟨fm en, hm, fun a xs H' s1 ha ea _ => ?_⟩, fun p ep b dx H' s1 eb ex => ?_⟩
  · exact k H' p0 (e1.trans (.of (s0.trans s1))) (t1.ext (s0.trans s1)) (fun b o hb hn => ne_of_none (e1 _ _ hb hn) h0) (.inl ⟨en, s1 _ _ upd_same⟩)
  · refine ⟨dx, .ref b, rfl, rfl, ex, fun p1 h1 => ?_⟩
    have s2 := (s0.trans s1).trans (same_new h1 (.lst [.ref b]))
    exact k _ p1 (e1.trans (.of s2)) (t1.ext s2) (fun b o hb hn => ne_of_none ((s0.trans s1) _ _ (e1 _ _ hb hn)) h1) (.inr ⟨p, b, ep, upd_same, by rw [upd_ne (ne_of_none eb h1)]; exact eb⟩)
end
/-- a call that is refused, or not, read as a whole -/
theorem lam_ref {P C : Addr} {q : Str} {f : Nat → PyData → List PyData} {n m i : Nat} {σ : L2.St} {H : Hp} {v : V} {d : PyData} {Q : VK} (t : Tabs [(P, q)] H) (hσ : σ[i]? = some (some v)) (dq : Dq H v d) (fn : fitF n d) (hn : n ≤ 1000) (fm : checkF n d = none → fitF m d) (hm : m ≤ 20)
    (k : ∀ (H2 : Hp) (r : Addr), ExtN H H2 → Tabs [(P, q)] H2 → (∀ b o, H b = some o → (∀ ps, o ≠ .tbl ps) → b ≠ r) → Ans H2 r (checkF n d) → Q (.ref r) H2) :
    tLam [(P, q)] (TRef C) (fun E => tCall (spTop f n m C) [] E (tCons (tVar i) tNil)) σ H Q :=
  ⟨t, fun H1 e1 t1 p0 h0 => ⟨v, hσ, top_ref (Q := fun r H => Q (.ref r) H) dq fn hn fm hm k e1 t1 p0 h0⟩⟩
theorem goodF_up : ∀ (n : Nat) (d : PyData), goodF n d → goodF (n + 1) d
  | 0, _, h => h.elim
  | n + 1, d, h => h.imp id fun ⟨a, b, c, e⟩ => ⟨a, goodF_up n _ b, goodF_up n _ c, e⟩
theorem goodF_le {n m : Nat} {d : PyData} (h : goodF n d) (l : n ≤ m) : goodF m d := by
  induction l with
  | refl => exact h
  | step _ ih => exact goodF_up _ _ ih
theorem fitF_le {n m : Nat} {d : PyData} (h : fitF n d) (l : n ≤ m) : fitF m d := by
  induction l with
  | refl => exact h
  | step _ ih => exact fitF_up _ _ ih
theorem good_check {n : Nat} {d : PyData} (h : goodF n d) : checkF n d = none := by
  unfold checkF
  by_cases e : emptyD d = true
  · exact if_pos e
  · rw [if_neg e]; exact (goodF_all n d h).2.2
theorem passN {X : Cx} : Passes (L2.CX X.prog X.w) X (fun _ _ _ => False) := fun _ _ _ _ _ _ _ h => by
  obtain ⟨_, _, _, _, _, _, _, _, _, _, _, _, z⟩ := h
  exact z.elim
end My
namespace My
open PySem PySem.Spec PyProof.Rows L2 LamX
/-! ### the law -/
theorem fnOk_up {P : Program} {w : World} {K : PySem.W.Frag} {mg : Str → Option Value} {base : Heap} {CX : CXT} {k j : Nat} {f : Addr} {fd : FuncData} {ps : List Str} {sp : Sp} (F : FnOk P w K mg base CX j f fd ps sp) (h : j ≤ k) : FnOk P w K mg base CX k f fd ps sp :=
  ⟨F.len, fun A outer s H args us vs Q E hr => F.run A outer s H args us vs Q E (hr.mono h)⟩
def spDr : Sp := fun vs H Q _ => ∃ (s c : Addr) (r : Int), vs = [.ref s, .int r] ∧ Src H s c ∧ 1 ≤ r ∧ r ≤ 4 ∧ ∀ (v : V) (d : PyData) (H' : Hp), Go s c H H' → Dq (cutH s c H') v d → goodF 5 d → Q v H'
def spLawT (K : PySem.W.Frag) (p : Addr) : Sp := fun vs H Q _ => ∃ (a : Addr) (ns : List Int), vs = [.ref a] ∧ SqL K H a (ns.map V.int) ∧ ns.length ≤ 63 ∧ H p = some (.tbl #[]) ∧ ∀ H', Q (.bl true) H'
/-- the name of a lambda of the law -/
def lamQ : Str := ("law" : Str) ++ ".<locals>." ++ "<lambda>"
theorem top_ok {f : Nat → PyData → List PyData} {C : Addr} {H : Hp} {v : V} {d : PyData} {Q : VK} (dq : Dq H v d) (f41 : fitF 41 d) (f13 : fitF 13 d) (hc : checkF 41 d = none)
    (k : ∀ (a : Addr) (xs : List V) (H' : Hp), Same H H' → H a = none → H' a = some (.lst xs) → DqAll H' xs (f 13 d) → Q (.ref a) H') : spTop f 41 13 C [v] H Q (fun _ _ _ => False) :=
  ⟨v, d, rfl, dq, f41, by decide, fun _ => ⟨f13, by decide, k⟩, fun p ep => by
    rw [hc] at ep
    cases ep⟩
theorem top_good {f : Nat → PyData → List PyData} {C : Addr} {H : Hp} {v : V} {d : PyData} {Q : VK} (dq : Dq H v d) (gd : goodF 13 d)
    (k : ∀ (a : Addr) (xs : List V) (H' : Hp), Same H H' → H a = none → H' a = some (.lst xs) → DqAll H' xs (f 13 d) → Q (.ref a) H') : spTop f 41 13 C [v] H Q (fun _ _ _ => False) :=
  top_ok dq (fitF_le (goodF_all _ _ gd).1 (by decide)) (goodF_all _ _ gd).1 (good_check (goodF_le gd (by decide : 13 ≤ 41))) k
theorem tree_good {f : Nat → PyData → List PyData} {H : Hp} {v : V} {d : PyData} {Q : VK} {E : XK} (dq : Dq H v d) (gd : goodF 13 d)
    (k : ∀ (a : Addr) (xs : List V) (H' : Hp), Same H H' → H a = none → H' a = some (.lst xs) → DqAll H' xs (f 13 d) → Q (.ref a) H') : spTree f 13 [v] H Q E :=
  ⟨v, d, rfl, dq, (goodF_all 13 d gd).2.1, by decide, k⟩
theorem told_dp {K : PySem.W.Frag} {M : Hp} {t a b : Addr} {xs ys : List V} {n : Nat} {d : PyData} (et : M t = some (.lst [.ref a, .ref b])) (ea : M a = some (.lst xs)) (eb : M b = some (.lst ys)) (dx : DqAll M xs (leavesF n d)) (dy : DqAll M ys (forksF n d)) (gd : goodF n d) :
    Dp K M (.ref t) (.list [.list (leavesF n d), .list (forksF n d)]) :=
  .lst (SqL.of et) (.cons (.lst (SqL.of ea) (dx.dp (good_leaves n d gd).nod)) (.cons (.lst (SqL.of eb) (dy.dp (good_forks n d gd).nod)) .nil))
theorem tup_of {M : Hp} {v : V} {d : PyData} (h : Dq M v d) (t : decide (tyD d = "tuple") = true) : ∃ (a : Addr) (xs : List V) (ds : List PyData), v = .ref a ∧ M a = some (.tup xs) ∧ d = .tuple ds ∧ xs.length = ds.length := by
  cases h with
  | tup e hs => exact ⟨_, _, _, rfl, e, rfl, hs.length⟩
  | non => cases t
  | bl _ => cases t
  | int _ => cases t
  | str _ => cases t
  | lst _ _ _ => cases t
  | dct _ _ => cases t
theorem Ans.at_ {H : Hp} {r : Addr} {o : Option (List Int)} (h : Ans H r o) : ∃ xs, H r = some (.lst xs) := by
  rcases h with ⟨_, h⟩ | ⟨_, _, _, h, _⟩ <;> exact ⟨_, h⟩
theorem Ans.upd {H : Hp} {r q : Addr} {o : Option (List Int)} {ys zs : List V} (h : Ans H r o) (n : r ≠ q) (e : H q = some (.lst ys)) : Ans (L2.upd H q (.lst zs)) r o := by
  rcases h with ⟨h0, h⟩ | ⟨p, b, h0, h1, h2⟩
  · exact .inl ⟨h0, by rw [upd_ne n]; exact h⟩
  · exact .inr ⟨p, b, h0, by rw [upd_ne n]; exact h1, by rw [upd_ne (ne_of h2 e (by intro z; cases z))]; exact h2⟩
theorem tabs_upd {L : List (Addr × Str)} {H : Hp} {q : Addr} {ys zs : List V} (e : H q = some (.lst ys)) (t : Tabs L H) : Tabs L (L2.upd H q (.lst zs)) := fun p hp => by
  obtain ⟨ps, h1, h2, h3⟩ := t p hp
  refine ⟨ps, by rw [upd_ne (ne_of h1 e (by intro z; cases z))]; exact h1, h2, fun pos cv hc => ?_⟩
  obtain ⟨c0, e1, e2⟩ := h3 pos cv hc
  exact ⟨c0, e1, by rw [upd_ne (ne_of e2 e (codeO_lst _ _ _))]; exact e2⟩
/-! ### trees by hand -/
def strB : PyData → Bool
  | .str x => decide (x.length ≤ 100000) && PyData.strOk x
  | _ => true
theorem strB_ok {d : PyData} (h : strB d = true) : ∀ x, d = .str x → x.length ≤ 100000 ∧ PyData.strOk x = true := fun x e => by
  rw [e] at h
  have h : (decide (x.length ≤ 100000) && PyData.strOk x) = true := h
  rw [Bool.and_eq_true, decide_eq_true_iff] at h
  exact h
def fitB : Nat → PyData → Bool
  | 0, _ => false
  | n + 1, d => strB d && (!forkD d || (fitB n (nthD d 0) && fitB n (nthD d 1) && strB (nthD d 2)))
theorem fitB_ok : ∀ (n : Nat) (d : PyData), fitB n d = true → fitF n d
  | 0, _, h => by cases h
  | n + 1, d, h => by
    have h : (strB d && (!forkD d || (fitB n (nthD d 0) && fitB n (nthD d 1) && strB (nthD d 2)))) = true := h
    simp only [Bool.and_eq_true, Bool.or_eq_true, Bool.not_eq_true'] at h
    refine ⟨strB_ok h.1, fun f => ?_⟩
    rcases h.2 with z | z
    · rw [f] at z; cases z
    · exact ⟨fitB_ok n _ z.1.1, fitB_ok n _ z.1.2, strB_ok z.2⟩
structure HdOk (d : PyData) (p : List Int) : Prop where
  fit : fitF 5 d
  chk : checkF 41 d = some p
  wrg : wrongF 41 d = some p
theorem hd_ok {d : PyData} {p : List Int} (h : (fitB 5 d && !emptyD d && decide (wrongF 41 d = some p)) = true) : HdOk d p := by
  simp only [Bool.and_eq_true, Bool.not_eq_true', decide_eq_true_iff] at h
  exact ⟨fitB_ok _ _ h.1.1, (if_neg (by rw [h.1.2]; exact Bool.false_ne_true)).trans h.2, h.2⟩
/-- a pair by hand: a tree that is none, the path with which it is refused -/
def HP (M : Hp) (x : V) : Prop := ∃ (pr : Addr) (b : V) (dv : Addr) (p : List Int) (d : PyData), x = .ref pr ∧ M pr = some (.tup [b, .ref dv]) ∧ Dq M b d ∧ HdOk d p ∧ M dv = some (.tup (p.map V.int))
theorem HP.ext {M M' : Hp} {x : V} (e : ExtN M M') (h : HP M x) : HP M' x := by
  obtain ⟨pr, b, dv, p, d, h0, h1, h2, h3, h4⟩ := h
  exact ⟨pr, b, dv, p, d, h0, e _ _ h1 (fun _ z => nomatch z), h2.ext e, h3, e _ _ h4 (fun _ z => nomatch z)⟩
def lowD : Nat → PyData
  | 0 => .list [.str "a"]
  | n + 1 => .tuple [lowD n, .str "b", .none]
def deepD : Nat → PyData
  | 0 => .str "a"
  | n + 1 => .tuple [deepD n, .str "b", .none]
theorem low_ok : fitF 41 (lowD 39) ∧ checkF 41 (lowD 39) = some (List.replicate 39 0) := ⟨fitB_ok _ _ (by decide +kernel), by decide +kernel⟩
theorem deep_good : ∀ n, goodF (n + 1) (deepD n)
  | 0 => .inl (by decide +kernel)
  | n + 1 => .inr ⟨rfl, deep_good n, (Or.inl (show wordD (.str "b") = true by decide +kernel) : goodF (n + 1) (.str "b")), .inl rfl⟩
theorem dp_strs {K : PySem.W.Frag} {H : Hp} : ∀ p : List Str, DpAll K H (p.map V.str) (p.map .str)
  | [] => .nil
  | i :: p => .cons (.str i) (dp_strs p)
theorem deep_eqv : PyData.eqv (.list (leavesF 13 (deepD 12))) (.list ((("a" : Str) :: List.replicate 12 "b").map .str)) = true ∧ (forksF 13 (deepD 12)).length = 12 := ⟨by decide +kernel, by decide +kernel⟩
theorem last_eqv : PyData.eqv (.list [.list (leavesF 13 (.tuple [])), .list (forksF 13 (.tuple [])), .list (forksF 13 (.tuple [.tuple [.str "a", .str "b", .str "p"], .str "c", .none]))]) (.list [.list [], .list [], .list [.tuple [.none, .tuple [.str "a", .str "b"], .tuple [.str "c"]], .tuple [.str "p", .tuple [.str "a"], .tuple [.str "b"]]]]) = true := by decide +kernel
theorem nil_ok : fitF 41 (.tuple []) ∧ fitF 13 (.tuple []) ∧ checkF 41 (.tuple []) = none := ⟨fitB_ok _ _ (by decide +kernel), fitB_ok _ _ (by decide +kernel), by decide +kernel⟩
theorem tri_ok : goodF 13 (.tuple [.tuple [.str "a", .str "b", .str "p"], .str "c", .none]) :=
  .inr ⟨rfl, .inr ⟨rfl, .inl (show wordD (.str "a") = true by decide +kernel), .inl (show wordD (.str "b") = true by decide +kernel), .inr (show wordD (.str "p") = true by decide +kernel)⟩, .inl (show wordD (.str "c") = true by decide +kernel), .inl rfl⟩
section
variable {P : Program} {w : World} {K : PySem.W.Frag} {mg : Str → Option Value} {base : Heap}
theorem ok_drawn5 (T : Tx K mg) : FnOk P w K mg base CX0 8 T.a_law_drawn_tree T.fd_law_drawn_tree ["_law_source_here", "_law_room"] spDr := by
  have F : ∀ n, n ≤ 5 → FnOk P w K mg base CX0 8 T.a_law_drawn_tree T.fd_law_drawn_tree ["_law_source_here", "_law_room"] (spDrawn n) := fun n h => fnOk_up (ok_drawn_tree T n) (by omega)
  have key : ∀ vs H Q E, spDr vs H Q E → ∃ n, n ≤ 5 ∧ spDrawn n vs H Q E := fun vs H Q E h => by
    obtain ⟨s, c, r, rfl, S, r1, r4, k⟩ := h
    obtain ⟨m, rfl⟩ : ∃ m : Nat, r = (m : Int) := ⟨r.toNat, by omega⟩
    exact ⟨m + 1, by omega, s, c, m, rfl, S, rfl, by omega, fun v d H' g dq gd => k v d H' g dq (goodF_le gd (by omega))⟩
  exact ⟨fun vs H Q E h => let ⟨n, l, q⟩ := key vs H Q E h; (F n l).len vs H Q E q, fun A outer s H args us vs Q E hr e0 hb r h => let ⟨n, l, q⟩ := key vs H Q E h; (F n l).run A outer s H args us vs Q E hr e0 hb r q⟩
theorem ok_law (T : Tx K mg) {cc pp : Addr} (hc : CodeAt K T.a_law cc) (TB : TabB base mg cc pp) : FnG P w K mg base 61 T.a_law T.fd_law ["_law_script"] (spLawT K pp) := by
  refine FnG.ofC T.F_law hc sc_law (fun vs H Q E h => ?_) (fun A outer st H vs Q E hg hr h => ?_)
  · obtain ⟨a, ns, rfl, _⟩ := h
    rfl
  obtain ⟨a0, ns0, rfl, hS0, hl0, hT0, k⟩ := h
  have G_law_source : FnOk P w K mg base CX0 1 T.a_law_source T.fd_law_source ["_law_script"] (spSource K) := ok_source T
  have G_law_pick : FnOk P w K mg base CX0 1 T.a_law_pick T.fd_law_pick ["_law_source_here", "_law_many"] spPick := ok_pick T
  have G_law_drawn_tree : FnOk P w K mg base CX0 8 T.a_law_drawn_tree T.fd_law_drawn_tree ["_law_source_here", "_law_room"] spDr := ok_drawn5 T
  have G_law_bent : FnOk P w K mg base CX0 9 T.a_law_bent T.fd_law_bent ["_law_source_here", "_law_tree"] (spBent 5) := ok_bent T 5
  have G_leaves : FnOk P w K mg base (L2.CX P w) 58 T.a_leaves T.fd_leaves ["tree"] (spTop leavesF 41 13 T.e_BadTree.C) := ok_leaves T 41 13
  have G_forks : FnOk P w K mg base (L2.CX P w) 58 T.a_forks T.fd_forks ["tree"] (spTop forksF 41 13 T.e_BadTree.C) := ok_forks T 41 13
  have G_law_leaves : FnOk P w K mg base CX0 15 T.a_law_leaves T.fd_law_leaves ["_law_tree"] (spTree leavesF 13) := ok_law_leaves T 13
  have G_law_forks_of : FnOk P w K mg base CX0 16 T.a_law_forks_of T.fd_law_forks_of ["_law_tree"] (spTree forksF 13) := ok_law_forks_of T 13
  have G_law_wrong_tree : FnOk P w K mg base CX0 43 T.a_law_wrong_tree T.fd_law_wrong_tree ["_law_value"] (spWL 41) := ok_law_wrong_tree T 41
  have hr_lam : Room 60 _ := hr
  have hr_top : Room 58 _ := hr.mono (by decide)
  have hr_law_source : Room 1 _ := hr.mono (by decide)
  have hr_law_pick : Room 1 _ := hr.mono (by decide)
  have hr_law_drawn_tree : Room 8 _ := hr.mono (by decide)
  have hr_law_bent : Room 9 _ := hr.mono (by decide)
  have hr_law_leaves : Room 15 _ := hr.mono (by decide)
  have hr_law_forks_of : Room 16 _ := hr.mono (by decide)
  have hr_law_wrong_tree : Room 43 _ := hr.mono (by decide)
  have hu := hr.units
  refine ⟨_, ((pss_cons (ps_set (i := 1) sc_law.nd rfl (Or.inl rfl) (pe_call G_law_source hr_law_source rfl T.m_law_source T.F_law_source.kp T.b_law_source .nil pass0 (pa_cons (pv 0) pa_nil)))
      (pss_cons (ps_for PassesOwn.never rfl (pi_range1 rfl T.n_range (pa_cons pe_int pa_nil)) (pg_name (i := 2) sc_law.nd rfl (Or.inl rfl))
        (pss_cons (ps_set (i := 3) sc_law.nd rfl (Or.inl rfl) (pe_call G_law_drawn_tree hr_law_drawn_tree rfl T.m_law_drawn_tree T.F_law_drawn_tree.kp T.b_law_drawn_tree .nil pass0 (pa_cons (pv 1) (pa_cons (pe_op op_add pe_int (pe_call G_law_pick hr_law_pick rfl T.m_law_pick T.F_law_pick.kp T.b_law_pick .nil pass0 (pa_cons (pv 1) (pa_cons pe_int pa_nil)))) pa_nil))))
      (pss_cons (ps_set (i := 4) sc_law.nd rfl (Or.inl rfl) (pe_lst (pa_cons (pe_call G_leaves hr_top rfl T.m_leaves T.F_leaves.kp T.b_leaves .nil passN (pa_cons (pv 3) pa_nil)) (pa_cons (pe_call G_forks hr_top rfl T.m_forks T.F_forks.kp T.b_forks .nil passN (pa_cons (pv 3) pa_nil)) pa_nil))))
      (pss_cons (ps_if (pt_cmpR (op_neD hr.units) (pv 4) (pe_lst (pa_cons (pe_call G_law_leaves hr_law_leaves rfl T.m_law_leaves T.F_law_leaves.kp T.b_law_leaves .nil pass0 (pa_cons (pv 3) pa_nil)) (pa_cons (pe_call G_law_forks_of hr_law_forks_of rfl T.m_law_forks_of T.F_law_forks_of.kp T.b_law_forks_of .nil pass0 (pa_cons (pv 3) pa_nil)) pa_nil))) (nomark _))
        (pss_one (ps_ret pe_bl))
        pss_nil)
      (pss_cons (ps_expr (pe_bm PySem.F.plainAttrs_list PySem.F.slot_list_append PySem.F.type_list_append mt_append (pe_ix ix_list (pv 4) pe_int (fun _ _ => rfl)) (pa_cons pe_non pa_nil)))
      (pss_cons (ps_expr (pe_bm PySem.F.plainAttrs_list PySem.F.slot_list_append PySem.F.type_list_append mt_append (pe_ix ix_list (pv 4) pe_int (fun _ _ => rfl)) (pa_cons pe_non pa_nil)))
      (pss_cons (ps_if (pt_cmpR (op_neD hr.units) (pe_lst (pa_cons (pe_call G_leaves hr_top rfl T.m_leaves T.F_leaves.kp T.b_leaves .nil passN (pa_cons (pv 3) pa_nil)) (pa_cons (pe_call G_forks hr_top rfl T.m_forks T.F_forks.kp T.b_forks .nil passN (pa_cons (pv 3) pa_nil)) pa_nil))) (pe_lst (pa_cons (pe_call G_law_leaves hr_law_leaves rfl T.m_law_leaves T.F_law_leaves.kp T.b_law_leaves .nil pass0 (pa_cons (pv 3) pa_nil)) (pa_cons (pe_call G_law_forks_of hr_law_forks_of rfl T.m_law_forks_of T.F_law_forks_of.kp T.b_law_forks_of .nil pass0 (pa_cons (pv 3) pa_nil)) pa_nil))) (nomark _))
        (pss_one (ps_ret pe_bl))
        pss_nil)
      (pss_one (ps_for PassesOwn.never rfl (pi_range1 rfl T.n_range (pa_cons pe_int pa_nil)) (pg_name (i := 5) sc_law.nd rfl (Or.inl rfl))
        (pss_cons (ps_set (i := 6) sc_law.nd rfl (Or.inr rfl) (pe_call G_law_bent hr_law_bent rfl T.m_law_bent T.F_law_bent.kp T.b_law_bent .nil pass0 (pa_cons (pv 1) (pa_cons (pv 3) pa_nil))))
      (Evl.pss_cut (ps_par (i := 7) (j := 8) (by rfl) sc_law.nd rfl rfl (by decide) rfl rfl (pa_cons (pe_ifExp (PW.pt (pw_and (pt_val (pe_callB (show CallR _ (.builtin "isinstance") (rIsi K) from call_isi) (by rfl) T.n_isinstance (by decide +kernel) (pa_cons (pv 6) (pa_cons (pe_bltn (v := .ty "tuple") (by rfl) T.n_tuple (by decide +kernel) rfl) pa_nil)))) (pw_and1 (pt_cmpR (op_eqT0 hr.units) (pv 6) (pe_tup pa_nil) (nomark _))))) (pe_lstN pa_nil) (pe_call G_law_wrong_tree hr_law_wrong_tree rfl T.m_law_wrong_tree T.F_law_wrong_tree.kp T.b_law_wrong_tree .nil pass0 (pa_cons (pv 6) pa_nil))) (pa_cons (pe_callB (call_repr_Q hg hu) (by rfl) T.n_repr (by decide +kernel) (pa_cons (pv 6) pa_nil)) pa_nil)) (by rfl))
      (pss_cons (ps_set (i := 9) sc_law.nd rfl (Or.inl rfl) (pe_lst (pa_cons (pe_ref T rfl TB rfl hr_lam (show LamS (defScope s_law) _ from lamS_by (by decide +kernel)) rfl (fun _ _ _ _ _ => rfl) (fun A outer s H E f c' hr2 => pe_call G_leaves hr2 rfl T.m_leaves T.F_leaves.kp T.b_leaves .nil (passes_call (takes_of rfl rfl rfl rfl) (fun _ _ _ _ z => z)) (pa_cons (pe_var (i := 6) rfl (.inr (.inr rfl))) pa_nil))) pa_nil)))
      (pss_cons (ps_expr (pe_bm PySem.F.plainAttrs_list PySem.F.slot_list_append PySem.F.type_list_append mt_append (pv 9) (pa_cons (pe_ref T rfl TB rfl hr_lam (show LamS (defScope s_law) _ from lamS_by (by decide +kernel)) rfl (fun _ _ _ _ _ => rfl) (fun A outer s H E f c' hr2 => pe_call G_forks hr2 rfl T.m_forks T.F_forks.kp T.b_forks .nil (passes_call (takes_of rfl rfl rfl rfl) (fun _ _ _ _ z => z)) (pa_cons (pe_var (i := 6) rfl (.inr (.inr rfl))) pa_nil))) pa_nil)))
      (pss_one (ps_if (PW.pt (pw_or (pt_cmpR (op_neD hr.units) (pv 9) (pe_lst (pa_cons (pv 7) (pa_cons (pv 7) pa_nil))) (nomark _)) (pw_or1 (pt_cmpR op_ne (pe_callB (call_repr_Q hg hu) (by rfl) T.n_repr (by decide +kernel) (pa_cons (pv 6) pa_nil)) (pv 8) (nomark _)))))
        (pss_one (ps_ret pe_bl))
        pss_nil)))))))))))))))
      (pss_cons (ps_for PassesOwn.never rfl (pi_list (pe_lst (pa_cons (pe_tup (pa_cons (pe_tup (pa_cons (pe_lstN pa_nil) (pa_cons pe_int (pa_cons pe_int pa_nil)))) (pa_cons (pe_tup (pa_cons pe_int pa_nil)) pa_nil))) (pa_cons (pe_tup (pa_cons (pe_tup (pa_cons (pe_tup (pa_cons pe_str (pa_cons (pe_lstN pa_nil) (pa_cons pe_int pa_nil)))) (pa_cons (pe_tup (pa_cons (pe_tup pa_nil) (pa_cons pe_str (pa_cons pe_non pa_nil)))) (pa_cons pe_int pa_nil)))) (pa_cons (pe_tup (pa_cons pe_int (pa_cons pe_int pa_nil))) pa_nil))) (pa_cons (pe_tup (pa_cons (pe_tup (pa_cons (pe_tup (pa_cons pe_str (pa_cons pe_str (pa_cons pe_int pa_nil)))) (pa_cons (pe_lstN pa_nil) (pa_cons pe_int pa_nil)))) (pa_cons (pe_tup (pa_cons pe_int (pa_cons pe_int pa_nil))) pa_nil))) (pa_cons (pe_tup (pa_cons (pe_tup (pa_cons pe_str (pa_cons (pe_tup (pa_cons pe_str (pa_cons (pe_tup pa_nil) (pa_cons pe_int pa_nil)))) (pa_cons pe_int pa_nil)))) (pa_cons (pe_tup (pa_cons pe_int (pa_cons pe_int pa_nil))) pa_nil))) pa_nil)))))) (pg_tup rfl (pgs_cons (pg_name (i := 6) sc_law.nd rfl (Or.inr rfl)) (pgs_cons (pg_name (i := 7) sc_law.nd rfl (Or.inl rfl)) pgs_nil)))
        (pss_one (ps_if (pt_cmpR (op_neD hr.units) (pe_lst (pa_cons (pe_ref T rfl TB rfl hr_lam (show LamS (defScope s_law) _ from lamS_by (by decide +kernel)) rfl (fun _ _ _ _ _ => rfl) (fun A outer s H E f c' hr2 => pe_call G_leaves hr2 rfl T.m_leaves T.F_leaves.kp T.b_leaves .nil (passes_call (takes_of rfl rfl rfl rfl) (fun _ _ _ _ z => z)) (pa_cons (pe_var (i := 6) rfl (.inr (.inr rfl))) pa_nil))) (pa_cons (pe_call G_law_wrong_tree hr_law_wrong_tree rfl T.m_law_wrong_tree T.F_law_wrong_tree.kp T.b_law_wrong_tree .nil pass0 (pa_cons (pv 6) pa_nil)) pa_nil))) (pe_lst (pa_cons (pe_lst (pa_cons (pv 7) pa_nil)) (pa_cons (pe_lst (pa_cons (pv 7) pa_nil)) pa_nil))) (nomark _))
        (pss_one (ps_ret pe_bl))
        pss_nil)))
      (pss_cons (ps_set (i := 10) sc_law.nd rfl (Or.inr rfl) (pe_lstN (pa_cons pe_str pa_nil)))
      (pss_cons (ps_for PassesOwn.never rfl (pi_range1 rfl T.n_range (pa_cons pe_int pa_nil)) (pg_name (i := 11) sc_law.nd rfl (Or.inl rfl))
        (pss_one (ps_set (i := 10) sc_law.nd rfl (Or.inr rfl) (pe_tup (pa_cons (pv 10) (pa_cons pe_str (pa_cons pe_non pa_nil)))))))
      (pss_cons (ps_set (i := 9) sc_law.nd rfl (Or.inl rfl) (pe_lst (pa_cons (pe_ref T rfl TB rfl hr_lam (show LamS (defScope s_law) _ from lamS_by (by decide +kernel)) rfl (fun _ _ _ _ _ => rfl) (fun A outer s H E f c' hr2 => pe_call G_leaves hr2 rfl T.m_leaves T.F_leaves.kp T.b_leaves .nil (passes_call (takes_of rfl rfl rfl rfl) (fun _ _ _ _ z => z)) (pa_cons (pe_var (i := 10) rfl (.inr (.inr rfl))) pa_nil))) pa_nil)))
      (pss_cons (ps_expr (pe_bm PySem.F.plainAttrs_list PySem.F.slot_list_append PySem.F.type_list_append mt_append (pv 9) (pa_cons (pe_ref T rfl TB rfl hr_lam (show LamS (defScope s_law) _ from lamS_by (by decide +kernel)) rfl (fun _ _ _ _ _ => rfl) (fun A outer s H E f c' hr2 => pe_call G_forks hr2 rfl T.m_forks T.F_forks.kp T.b_forks .nil (passes_call (takes_of rfl rfl rfl rfl) (fun _ _ _ _ z => z)) (pa_cons (pe_var (i := 10) rfl (.inr (.inr rfl))) pa_nil))) pa_nil)))
      (pss_cons (ps_if (pt_cmpR (op_neD hr.units) (pv 9) (pe_op op_rep (pe_lst (pa_cons (pe_lst (pa_cons (pe_op op_repT (pe_tup (pa_cons pe_int pa_nil)) pe_int) pa_nil)) pa_nil)) pe_int) (nomark _))
        (pss_one (ps_ret pe_bl))
        pss_nil)
      (pss_cons (ps_set (i := 12) sc_law.nd rfl (Or.inl rfl) pe_str)
      (pss_cons (ps_for PassesOwn.never rfl (pi_range1 rfl T.n_range (pa_cons pe_int pa_nil)) (pg_name (i := 11) sc_law.nd rfl (Or.inl rfl))
        (pss_one (ps_set (i := 12) sc_law.nd rfl (Or.inl rfl) (pe_tup (pa_cons (pv 12) (pa_cons pe_str (pa_cons pe_non pa_nil)))))))
      (pss_cons (ps_if (PW.pt (pw_or (pt_cmpR (op_neD hr.units) (pe_call G_leaves hr_top rfl T.m_leaves T.F_leaves.kp T.b_leaves .nil passN (pa_cons (pv 12) pa_nil)) (pe_op op_cat (pe_lstN (pa_cons pe_str pa_nil)) (pe_op op_rep (pe_lst (pa_cons pe_str pa_nil)) pe_int)) (nomark _)) (pw_or1 (pt_cmpR op_ne (pe_callB call_len_seq (by rfl) T.n_len (by decide +kernel) (pa_cons (pe_call G_forks hr_top rfl T.m_forks T.F_forks.kp T.b_forks .nil passN (pa_cons (pv 12) pa_nil)) pa_nil)) pe_int (nomark _)))))
        (pss_one (ps_ret pe_bl))
        pss_nil)
      (pss_one (ps_ret (pe_cmpR (op_eqD hr.units) (pe_lst (pa_cons (pe_call G_leaves hr_top rfl T.m_leaves T.F_leaves.kp T.b_leaves .nil passN (pa_cons (pe_tup pa_nil) pa_nil)) (pa_cons (pe_call G_forks hr_top rfl T.m_forks T.F_forks.kp T.b_forks .nil passN (pa_cons (pe_tup pa_nil) pa_nil)) (pa_cons (pe_call G_forks hr_top rfl T.m_forks T.F_forks.kp T.b_forks .nil passN (pa_cons (pe_tup (pa_cons (pe_tup (pa_cons pe_str (pa_cons pe_str (pa_cons pe_str pa_nil)))) (pa_cons pe_str (pa_cons pe_non pa_nil)))) pa_nil)) pa_nil)))) (pe_lst (pa_cons (pe_lstN pa_nil) (pa_cons (pe_lstN pa_nil) (pa_cons (pe_lst (pa_cons (pe_tup (pa_cons pe_non (pa_cons (pe_tup (pa_cons pe_str (pa_cons pe_str pa_nil))) (pa_cons (pe_tup (pa_cons pe_str pa_nil)) pa_nil)))) (pa_cons (pe_tup (pa_cons pe_str (pa_cons (pe_tup (pa_cons pe_str pa_nil)) (pa_cons (pe_tup (pa_cons pe_str pa_nil)) pa_nil)))) pa_nil))) pa_nil)))) (nomark _)))))))))))))))), ?_⟩
  have t0 : Tabs [(pp, lamQ)] H := fun q hq => by rw [List.mem_singleton.mp hq]; exact TabS.nil hT0
  refine ⟨_, rfl, a0, ns0, rfl, hS0, hl0, fun s c H1 s1 _ _ src1 => ?_⟩
  refine ⟨_, rfl, by decide, by decide, for_range (lo := 0) (n := 4) (fun i σ M => ∃ v2 v3 v4 v5 v6 v7 v8 v9 : Option V, σ = [some (.ref a0), some (.ref s), v2, v3, v4, v5, v6, v7, v8, v9, none, none, none] ∧ Src M s c ∧ Tabs [(pp, lamQ)] M)
    ⟨none, none, none, none, none, none, none, none, rfl, src1, t0.ext s1⟩ ?_ ?_⟩
  · rintro i σ M hi ⟨v2, v3, v4, v5, v6, v7, v8, v9, rfl, S, tb⟩
    refine ⟨_, rfl, _, rfl, s, c, 4, rfl, S, by decide, by decide, fun k0 M1 k00 k04 g1 => ⟨_, _, rfl, rfl, s, c, _, rfl, g1.src, by omega, by omega, fun v d M2 g2 dq gd => ?_⟩⟩
    have S2 := g2.src
    have gd13 : goodF 13 d := goodF_le gd (by decide)
    have tb2 := tabs_go (tabs_go tb S g1) g1.src g2
    refine ⟨_, rfl, ?_⟩
    simp only [tNil]
    refine top_good (dq.same cut_same) gd13 fun a xs M3 s3 ha ea dxs => ?_
    have dq2 : Dq M2 v d := dq.same cut_same
    refine ⟨_, rfl, ?_⟩
    simp only [tNil]
    refine top_good (dq2.same s3) gd13 fun b ys M4 s4 hb eb dys => ?_
    refine ⟨(by show 2 ≤ sizeLine; decide), fun t ht => ?_⟩
    have sT := same_new ht (.lst [.ref a, .ref b])
    have s24 := (s3.trans s4).trans sT
    have ab : a ≠ b := ne_of_none ea hb
    have ta : t ≠ a := (ne_of_none (s4 _ _ ea) ht).symm
    have tb' : t ≠ b := (ne_of_none eb ht).symm
    have et : (L2.upd M4 t (.lst [.ref a, .ref b])) t = some (.lst [.ref a, .ref b]) := upd_same
    have ea4 := sT _ _ (s4 _ _ ea)
    have eb4 := sT _ _ eb
    have dxs4 := dxs.same (s4.trans sT)
    have dys4 := dys.same sT
    generalize L2.upd M4 t (.lst [.ref a, .ref b]) = M5 at s24 et ea4 eb4 dxs4 dys4 ⊢
    clear sT
    refine ⟨_, rfl, _, rfl, ?_⟩
    simp only [tNil]
    refine tree_good (dq2.same s24) gd13 fun a' xs' M6 s6 ha' ea' dxs' => ?_
    refine ⟨_, rfl, ?_⟩
    simp only [tNil]
    refine tree_good (dq2.same (s24.trans s6)) gd13 fun b' ys' M7 s7 hb' eb' dys' => ?_
    refine ⟨(by show 2 ≤ sizeLine; decide), fun t' ht' => ?_⟩
    have sT' := same_new ht' (.lst [.ref a', .ref b'])
    have s58 := (s6.trans s7).trans sT'
    have sh := (told_shaped gd13).shaped (by decide)
    refine ⟨_, _, told_dp (s58 _ _ et) (s58 _ _ ea4) (s58 _ _ eb4) (dxs4.same s58) (dys4.same s58) gd13, told_dp upd_same (sT' _ _ (s7 _ _ ea')) (sT' _ _ eb') (dxs'.same (s7.trans sT')) (dys'.same sT') gd13, sh, sh, ?_⟩
    rw [eqv_same sh]
    refine ⟨_, rfl, iteF ?_⟩
    have et8 := s58 _ _ et
    have ea8 := s58 _ _ ea4
    have eb8 := s58 _ _ eb4
    have s28 := s24.trans s58
    generalize L2.upd M7 t' (.lst [.ref a', .ref b']) = M8 at s28 et8 ea8 eb8 ⊢
    -- None behind both lists
    have lx : xs.length < sizeLine := by
      rw [(dxs4.length : xs.length = _), sizeLine_eq]
      have := leavesF_len 13 d
      have : 2 ^ 13 = 8192 := by decide
      omega
    have ly : ys.length < sizeLine := by
      rw [(dys4.length : ys.length = _), sizeLine_eq]
      have := forksF_len 13 d
      have : 2 ^ 13 = 8192 := by decide
      omega
    have n2a : ∀ y u, M2 y = some u → y ≠ a := fun y u hy => ne_of_none hy ha
    have n2b : ∀ y u, M2 y = some u → y ≠ b := fun y u hy => ne_of_none (s3 _ _ hy) hb
    refine ⟨_, rfl, t, _, _, _, rfl, rfl, SqL.of et8, atI_nat (j := 0) rfl, .inl ⟨rfl, _, SqL.of ea8⟩, a, _, _, rfl, rfl, ea8, lx, ?_⟩
    have et9 : (L2.upd M8 a (.lst (xs ++ [.non]))) t = some (.lst [.ref a, .ref b]) := by rw [upd_ne ta]; exact et8
    have eb9 : (L2.upd M8 a (.lst (xs ++ [.non]))) b = some (.lst ys) := by rw [upd_ne ab.symm]; exact eb8
    refine ⟨_, rfl, t, _, _, _, rfl, rfl, SqL.of et9, atI_nat (j := 1) rfl, .inl ⟨rfl, _, SqL.of eb9⟩, b, _, _, rfl, rfl, eb9, ly, ?_⟩
    have s29 : Same M2 (L2.upd (L2.upd M8 a (.lst (xs ++ [.non]))) b (.lst (ys ++ [.non]))) := fun y u hy => by
      rw [upd_ne (n2b y u hy), upd_ne (n2a y u hy)]
      exact s28 _ _ hy
    generalize L2.upd (L2.upd M8 a (.lst (xs ++ [.non]))) b (.lst (ys ++ [.non])) = M9 at s29 ⊢
    -- told again
    have dq9 := dq2.same s29
    refine ⟨_, rfl, ?_⟩
    simp only [tNil]
    refine top_good dq9 gd13 fun a1 xs1 N1 u1 ha1 ea1 dx1 => ?_
    refine ⟨_, rfl, ?_⟩
    simp only [tNil]
    refine top_good (dq9.same u1) gd13 fun b1 ys1 N2 u2 hb1 eb1 dy1 => ?_
    refine ⟨(by show 2 ≤ sizeLine; decide), fun t1 ht1 => ?_⟩
    have u3 := same_new ht1 (.lst [.ref a1, .ref b1])
    refine ⟨_, rfl, ?_⟩
    simp only [tNil]
    refine tree_good (dq9.same ((u1.trans u2).trans u3)) gd13 fun a2 xs2 N3 u4 ha2 ea2 dx2 => ?_
    refine ⟨_, rfl, ?_⟩
    simp only [tNil]
    refine tree_good (dq9.same (((u1.trans u2).trans u3).trans u4)) gd13 fun b2 ys2 N4 u5 hb2 eb2 dy2 => ?_
    refine ⟨(by show 2 ≤ sizeLine; decide), fun t2 ht2 => ?_⟩
    have u6 := same_new ht2 (.lst [.ref a2, .ref b2])
    have u46 := (u4.trans u5).trans u6
    refine ⟨_, _, told_dp (u46 _ _ upd_same) (u46 _ _ (u3 _ _ (u2 _ _ ea1))) (u46 _ _ (u3 _ _ eb1)) (dx1.same ((u2.trans u3).trans u46)) (dy1.same (u3.trans u46)) gd13, told_dp upd_same (u6 _ _ (u5 _ _ ea2)) (u6 _ _ eb2) (dx2.same (u5.trans u6)) (dy2.same u6) gd13, sh, sh, ?_⟩
    rw [eqv_same sh]
    refine ⟨_, rfl, iteF ?_⟩
    have u26 := s29.trans ((((u1.trans u2).trans u3).trans u46))
    have S6 := S2.same u26
    have tb6 := Tabs.ext tb2 u26
    have dq6 := dq.same (cut_of (s := s) (c := c) u26)
    generalize L2.upd N4 t2 (.lst [.ref a2, .ref b2]) = M6 at S6 tb6 dq6 ⊢
    -- eight bent ones
    refine ⟨_, rfl, by decide, by decide, for_range (lo := 0) (n := 8) (fun j σ M => ∃ v4 v5 v6 v7 v8 v9 : Option V, σ = [some (.ref a0), some (.ref s), some (.int (0 + (i : Nat))), some v, v4, v5, v6, v7, v8, v9, none, none, none] ∧ Src M s c ∧ Tabs [(pp, lamQ)] M ∧ Dq (cutH s c M) v d)
      ⟨_, _, _, _, _, _, rfl, S6, tb6, dq6⟩ ?_ ?_⟩
    · rintro j σ M hj ⟨v4, v5, v6, v7, v8, v9, rfl, S, tb, dq⟩
      refine ⟨_, rfl, _, rfl, s, c, v, d, rfl, S, dq, gd, by decide, fun v' M1 g1 fq => ?_⟩
      obtain ⟨d', dq', ft, sm⟩ := fq
      have ft41 : fitF 41 d' := fitF_le ft (by decide)
      have tb1 := tabs_go tb S g1
      have S1 := g1.src
      have dq1 := dq.same (cut_go g1)
      have ft13 : fitF 13 d' := fitF_le ft (by decide)
      have dqM : ∀ {N : Hp}, Same M1 N → Dq N v' d' := fun sN => (dq'.same cut_same).same sN
      have hdp : d'.depth ≤ 60 := Nat.le_trans sm.dp (by decide)
      have hfit := sm.fits (by decide)
      refine ⟨fun σ' M' => ∃ r : Addr, σ' = [some (.ref a0), some (.ref s), some (.int (0 + (i : Nat))), some v, v4, some (.int (0 + (j : Nat))), some v', some (.ref r), some (.str d'.shown), v9, none, none, none] ∧ Same M1 M' ∧ Ans M' r (checkF 41 d'), ?_, ?_⟩
      · have ck : emptyD d' = false → checkF 41 d' = wrongF 41 d' := fun e => if_neg (by rw [e]; exact Bool.false_ne_true)
        refine ⟨_, rfl, v', .ty "tuple", .type (tyD d'), .type "tuple", _, rfl, .ty _, (dqM (Same.refl M1)).ty, is_tup d', ?_⟩
        cases hT : decide (tyD d' = "tuple") with
        | false =>
          have en : emptyD d' = false := by
            cases d' <;> first | rfl | exact absurd hT (by show ¬ (true = false); decide)
          refine ⟨_, rfl, iteF ⟨_, rfl, v', d', rfl, dqM (Same.refl M1), ft41, by decide, fun ew a N sN ha ea => ?_, fun p ep a b N sN ha ea eb => ?_⟩⟩
          · exact ⟨_, rfl, v', d', rfl, dqM sN, sm.sh, hdp, hfit, _, _, rfl, a, rfl, sN, .inl ⟨(ck en).trans ew, ea⟩⟩
          · exact ⟨_, rfl, v', d', rfl, dqM sN, sm.sh, hdp, hfit, _, _, rfl, a, rfl, sN, .inr ⟨p, b, (ck en).trans ep, ea, eb⟩⟩
        | true =>
          obtain ⟨a', xs', ds', ev, ea', ed, le⟩ := tup_of (dqM (Same.refl M1)) hT
          refine ⟨_, rfl, iteT ⟨_, rfl, Nat.zero_le _, fun p hp => ?_⟩⟩
          have sp := same_new hp (.tup [])
          refine ⟨a', p, xs', ev, rfl, SqT.of (sp _ _ ea'), SqT.of upd_same, _, rfl, ?_⟩
          by_cases l0 : xs'.length = 0
          · rw [decide_eq_true l0]
            have e0 : checkF 41 d' = none := if_pos (by rw [ed]; exact decide_eq_true (le.symm.trans l0))
            refine iteT ⟨Nat.zero_le _, fun r hr _ => ?_⟩
            have sr := sp.trans (same_new hr (.lst []))
            exact ⟨_, rfl, v', d', rfl, dqM sr, sm.sh, hdp, hfit, _, _, rfl, r, rfl, sr, .inl ⟨e0, upd_same⟩⟩
          · rw [decide_eq_false l0]
            have en : emptyD d' = false := by rw [ed]; exact decide_eq_false (by rw [← le]; exact l0)
            refine iteF ⟨_, rfl, v', d', rfl, dqM sp, ft41, by decide, fun ew a N sN ha ea => ?_, fun q ep a b N sN ha ea eb => ?_⟩
            · exact ⟨_, rfl, v', d', rfl, dqM (sp.trans sN), sm.sh, hdp, hfit, _, _, rfl, a, rfl, sp.trans sN, .inl ⟨(ck en).trans ew, ea⟩⟩
            · exact ⟨_, rfl, v', d', rfl, dqM (sp.trans sN), sm.sh, hdp, hfit, _, _, rfl, a, rfl, sp.trans sN, .inr ⟨q, b, (ck en).trans ep, ea, eb⟩⟩
      · rintro σ' M' ⟨r, rfl, s1, an⟩
        refine lam_ref (Tabs.ext tb1 s1) rfl (dqM s1) ft41 (by decide) (fun _ => ft13) (by decide) (fun N2 r1 e2 t2 fr1 an1 => ?_)
        refine ⟨(by show 1 ≤ sizeLine; decide), fun q hq => ?_⟩
        have sq := same_new hq (.lst [.ref r1])
        refine ⟨_, rfl, .inl ⟨rfl, _, SqL.of upd_same⟩, ?_⟩
        refine lam_ref (Tabs.ext t2 sq) rfl (((dqM s1).ext e2).same sq) ft41 (by decide) (fun _ => ft13) (by decide) (fun N4 r2 e4 t4 fr2 an2 => ?_)
        have eq4 := e4 q _ upd_same (fun _ z => nomatch z)
        refine ⟨q, _, _, rfl, rfl, eq4, (by show 1 < sizeLine; decide), ?_⟩
        have e24 : ExtN N2 N4 := (ExtN.of sq).trans e4
        have all : ExtN M' N4 := e2.trans e24
        have nq : ∀ b o, M' b = some o → (∀ ps, o ≠ .tbl ps) → b ≠ q := fun b o hb hn => ne_of_none (e2 _ _ hb hn) hq
        have an5 := (an.ext all).upd (zs := [.ref r1] ++ [.ref r2]) (let ⟨xs, h⟩ := an.at_; nq _ _ h (fun _ z => nomatch z)) eq4
        have an15 := (an1.ext e24).upd (zs := [.ref r1] ++ [.ref r2]) (let ⟨xs, h⟩ := an1.at_; ne_of_none h hq) eq4
        have an25 := an2.upd (zs := [.ref r1] ++ [.ref r2]) (fr2 q _ upd_same (fun _ z => nomatch z)).symm eq4
        have e5 : ExtN M' (L2.upd N4 q (.lst ([.ref r1] ++ [.ref r2]))) := fun b o hb hn => by
          rw [upd_ne (nq b o hb hn)]
          exact all b o hb hn
        have t5 := tabs_upd (zs := [.ref r1] ++ [.ref r2]) eq4 t4
        have eq5 : (L2.upd N4 q (.lst ([.ref r1] ++ [.ref r2]))) q = some (.lst [.ref r1, .ref r2]) := upd_same
        have S5 : Src (L2.upd N4 q (.lst ([.ref r1] ++ [.ref r2]))) s c := ((S1.same s1).ext all).upd6 (((S1.same s1).ext e2).ne_none hq)
        generalize L2.upd N4 q (.lst ([.ref r1] ++ [.ref r2])) = N5 at an5 an15 an25 e5 t5 eq5 S5 ⊢
        refine ⟨_, rfl, _, rfl, _, rfl, (by show 2 ≤ sizeLine; decide), fun u hu => ?_⟩
        have su := same_new hu (.lst [.ref r, .ref r])
        have eu := ExtN.of su
        have sh := (LayAll.list (.cons (ans_lay (checkF 41 d')) (.cons (ans_lay (checkF 41 d')) .nil))).shaped (by decide)
        refine ⟨_, _, .lst (SqL.of (su _ _ eq5)) (.cons (an15.ext eu).dp (.cons (an25.ext eu).dp .nil)), .lst (SqL.of upd_same) (.cons (an5.ext eu).dp (.cons (an5.ext eu).dp .nil)), sh, sh, ?_⟩
        rw [eqv_same sh]
        have e6 := e5.trans eu
        refine ⟨_, rfl, iteF ⟨_, rfl, v', d', rfl, (dqM s1).ext e6, sm.sh, hdp, hfit, _, rfl, rfl, _, rfl, iteN (fun h => absurd rfl h) (fun _ => ?_)⟩⟩
        exact ⟨_, _, _, _, _, _, rfl, S5.same su, Tabs.ext t5 su, (dq1.same (cut_of s1)).ext (cut_ext e6)⟩
    · rintro σ M ⟨v4, v5, v6, v7, v8, v9, rfl, S, tb, _⟩
      exact ⟨_, _, _, _, _, _, _, _, rfl, S, tb⟩
  · rintro σ M ⟨v2, v3, v4, v5, v6, v7, v8, v9, rfl, _, tb⟩
    -- four trees by hand
    refine ⟨Nat.zero_le _, fun p1 h1 b1 => ⟨(by show 3 ≤ sizeLine; decide), fun p2 h2 => ⟨(by show 1 ≤ sizeLine; decide), fun p3 h3 => ⟨(by show 2 ≤ sizeLine; decide), fun p4 h4 => ?_⟩⟩⟩⟩
    have x1 := same_new h1 (.lst [])
    have x2 := same_new h2 (.tup [.ref p1, .int 7, .int 7])
    have x3 := same_new h3 (.tup [.int 0])
    have x4 := same_new h4 (.tup [.ref p2, .ref p3])
    have y1 := ((x1.trans x2).trans x3).trans x4
    have H1 : HP _ (.ref p4) := ⟨p4, _, p3, [0], _, rfl, upd_same, .tup (x4 _ _ (x3 _ _ upd_same)) (.cons (.lst (x4 _ _ (x3 _ _ (x2 _ _ upd_same))) b1 .nil) (.cons (.int 7) (.cons (.int 7) .nil))), hd_ok (by decide +kernel), x4 _ _ upd_same⟩
    generalize L2.upd _ p4 (.tup [.ref p2, .ref p3]) = A1 at y1 H1 ⊢
    clear x1 x2 x3 x4 h1 h2 h3 h4 b1
    refine ⟨Nat.zero_le _, fun p5 h5 b5 => ⟨(by show 3 ≤ sizeLine; decide), fun p6 h6 => ⟨Nat.zero_le _, fun p7 h7 => ⟨(by show 3 ≤ sizeLine; decide), fun p8 h8 => ⟨(by show 3 ≤ sizeLine; decide), fun p9 h9 => ⟨(by show 2 ≤ sizeLine; decide), fun p10 h10 => ⟨(by show 2 ≤ sizeLine; decide), fun p11 h11 => ?_⟩⟩⟩⟩⟩⟩⟩
    have x5 := same_new h5 (.lst [])
    have x6 := same_new h6 (.tup [.str "a", .ref p5, .int 3])
    have x7 := same_new h7 (.tup [])
    have x8 := same_new h8 (.tup [.ref p7, .str "b", .non])
    have x9 := same_new h9 (.tup [.ref p6, .ref p8, .int 5])
    have x10 := same_new h10 (.tup [.int 0, .int 1])
    have x11 := same_new h11 (.tup [.ref p9, .ref p10])
    have z9 := x9.trans (x10.trans x11)
    have z8 := x8.trans z9
    have z7 := x7.trans z8
    have z6 := x6.trans z7
    have y2 := x5.trans z6
    have H2 : HP _ (.ref p11) := ⟨p11, _, p10, [0, 1], _, rfl, upd_same, .tup ((x10.trans x11) _ _ upd_same) (.cons (.tup (z7 _ _ upd_same) (.cons (.str "a") (.cons (.lst (z6 _ _ upd_same) b5 .nil) (.cons (.int 3) .nil)))) (.cons (.tup (z9 _ _ upd_same) (.cons (.tup (z8 _ _ upd_same) .nil) (.cons (.str "b") (.cons .non .nil)))) (.cons (.int 5) .nil))), hd_ok (by decide +kernel), x11 _ _ upd_same⟩
    generalize L2.upd _ p11 (.tup [.ref p9, .ref p10]) = A2 at y2 H2 ⊢
    clear x5 x6 x7 x8 x9 x10 x11 z9 z8 z7 z6 h5 h6 h7 h8 h9 h10 h11 b5
    refine ⟨(by show 3 ≤ sizeLine; decide), fun p12 h12 => ⟨Nat.zero_le _, fun p13 h13 b13 => ⟨(by show 3 ≤ sizeLine; decide), fun p14 h14 => ⟨(by show 2 ≤ sizeLine; decide), fun p15 h15 => ⟨(by show 2 ≤ sizeLine; decide), fun p16 h16 => ?_⟩⟩⟩⟩⟩
    have x12 := same_new h12 (.tup [.str "a", .str "b", .int 3])
    have x13 := same_new h13 (.lst [])
    have x14 := same_new h14 (.tup [.ref p12, .ref p13, .int 5])
    have x15 := same_new h15 (.tup [.int 0, .int 2])
    have x16 := same_new h16 (.tup [.ref p14, .ref p15])
    have z14 := x14.trans (x15.trans x16)
    have z13 := x13.trans z14
    have y3 := x12.trans z13
    have H3 : HP _ (.ref p16) := ⟨p16, _, p15, [0, 2], _, rfl, upd_same, .tup ((x15.trans x16) _ _ upd_same) (.cons (.tup (z13 _ _ upd_same) (.cons (.str "a") (.cons (.str "b") (.cons (.int 3) .nil)))) (.cons (.lst (z14 _ _ upd_same) b13 .nil) (.cons (.int 5) .nil))), hd_ok (by decide +kernel), x16 _ _ upd_same⟩
    generalize L2.upd _ p16 (.tup [.ref p14, .ref p15]) = A3 at y3 H3 ⊢
    clear x12 x13 x14 x15 x16 z14 z13 h12 h13 h14 h15 h16 b13
    refine ⟨Nat.zero_le _, fun p17 h17 => ⟨(by show 3 ≤ sizeLine; decide), fun p18 h18 => ⟨(by show 3 ≤ sizeLine; decide), fun p19 h19 => ⟨(by show 2 ≤ sizeLine; decide), fun p20 h20 => ⟨(by show 2 ≤ sizeLine; decide), fun p21 h21 => ⟨(by show 4 ≤ sizeLine; decide), fun pw hw => ?_⟩⟩⟩⟩⟩⟩
    have x17 := same_new h17 (.tup [])
    have x18 := same_new h18 (.tup [.str "b", .ref p17, .int 1])
    have x19 := same_new h19 (.tup [.str "a", .ref p18, .int 5])
    have x20 := same_new h20 (.tup [.int 1, .int 1])
    have x21 := same_new h21 (.tup [.ref p19, .ref p20])
    have z19 := x19.trans (x20.trans x21)
    have z18 := x18.trans z19
    have y4 := x17.trans z18
    have H4 : HP _ (.ref p21) := ⟨p21, _, p20, [1, 1], _, rfl, upd_same, .tup ((x20.trans x21) _ _ upd_same) (.cons (.str "a") (.cons (.tup (z19 _ _ upd_same) (.cons (.str "b") (.cons (.tup (z18 _ _ upd_same) .nil) (.cons (.int 1) .nil)))) (.cons (.int 5) .nil))), hd_ok (by decide +kernel), x21 _ _ upd_same⟩
    have yw := same_new hw (.lst [.ref p4, .ref p11, .ref p16, .ref p21])
    have y24 := y2.trans (y3.trans (y4.trans yw))
    have all : ∀ x ∈ ([.ref p4, .ref p11, .ref p16, .ref p21] : List V), HP _ x := forall_cons (H1.ext (.of y24)) (forall_cons (H2.ext (.of (y3.trans (y4.trans yw)))) (forall_cons (H3.ext (.of (y4.trans yw))) (forall_cons (H4.ext (.of yw)) forall_nil)))
    have tb0 := Tabs.ext tb (y1.trans y24)
    refine ⟨pw, rfl, ⟨_, SqL.of upd_same⟩, for_list (K := K) (a := pw) (xs := [.ref p4, .ref p11, .ref p16, .ref p21]) (fun i σ M => ∃ v2 v3 v4 v5 v6 v7 v8 v9 : Option V, σ = [some (.ref a0), some (.ref s), v2, v3, v4, v5, v6, v7, v8, v9, none, none, none] ∧ Tabs [(pp, lamQ)] M ∧ M pw = some (.lst [.ref p4, .ref p11, .ref p16, .ref p21]) ∧ ∀ x ∈ ([.ref p4, .ref p11, .ref p16, .ref p21] : List V), HP M x)
      ⟨_, _, _, _, _, _, _, _, rfl, tb0, upd_same, all⟩ (fun i σ M _ ⟨_, _, _, _, _, _, _, _, _, _, e, _⟩ => SqL.of e) ?_ ?_⟩
    · rintro i x σ M hx ⟨v2, v3, v4, v5, v6, v7, v8, v9, rfl, tb, ew, all⟩
      obtain ⟨pr, b, dv, p, d, rfl, e1, dq, hd, e2⟩ := all x (List.mem_of_getElem? hx)
      refine ⟨pr, _, rfl, SqT.of e1, rfl, _, _, rfl, _, _, rfl, rfl, ?_⟩
      refine lam_ref tb rfl dq (fitF_le hd.fit (by decide)) (by decide) (fun _ => fitF_le hd.fit (by decide)) (by decide) (fun N2 r1 g2 t2 _ an1 => ?_)
      refine ⟨_, rfl, b, d, rfl, dq.ext g2, fitF_le hd.fit (by decide), by decide, fun ew => ?_, fun p' ep r2 b2 N3 s3 ha ea eb => ?_⟩
      · rw [hd.wrg] at ew; cases ew
      have ep' : p = p' := Option.some.inj (hd.wrg.symm.trans ep)
      subst ep'
      refine ⟨(by show 2 ≤ sizeLine; decide), fun u hu => ⟨_, rfl, (by show 1 ≤ sizeLine; decide), fun w1 k1 => ⟨_, rfl, (by show 1 ≤ sizeLine; decide), fun w2 k2 => ⟨(by show 2 ≤ sizeLine; decide), fun w3 k3 => ?_⟩⟩⟩⟩
      have c1 := same_new hu (.lst [.ref r1, .ref r2])
      have c2 := same_new k1 (.lst [.ref dv])
      have c3 := same_new k2 (.lst [.ref dv])
      have c4 := same_new k3 (.lst [.ref w1, .ref w2])
      have c24 := c2.trans (c3.trans c4)
      have c34 := c3.trans c4
      have cc := s3.trans (c1.trans c24)
      have an1 := (an1.ext (.of cc))
      rw [hd.chk] at an1
      have an2 : Ans _ r2 (some p) := .inr ⟨p, b2, rfl, (c1.trans c24) _ _ ea, (c1.trans c24) _ _ eb⟩
      have e2' := cc _ _ (g2 _ _ e2 (fun _ z => nomatch z))
      have an3 : Ans _ w1 (some p) := .inr ⟨p, dv, rfl, c34 _ _ upd_same, e2'⟩
      have an4 : Ans _ w2 (some p) := .inr ⟨p, dv, rfl, c4 _ _ upd_same, e2'⟩
      have sh := (LayAll.list (.cons (ans_lay (some p)) (.cons (ans_lay (some p)) .nil))).shaped (by decide)
      refine ⟨_, _, .lst (SqL.of (c24 _ _ upd_same)) (.cons an1.dp (.cons an2.dp .nil)), .lst (SqL.of upd_same) (.cons an3.dp (.cons an4.dp .nil)), sh, sh, ?_⟩
      rw [eqv_same sh]
      have eall := g2.trans (.of cc)
      exact ⟨_, rfl, iteF ⟨_, _, _, _, _, _, _, _, rfl, Tabs.ext t2 cc, eall _ _ ew (fun _ z => nomatch z), fun y hy => (all y hy).ext eall⟩⟩
    · rintro σ M ⟨v2, v3, v4, v5, v6, v7, v8, v9, rfl, tb, _, _⟩
      -- the deep one that is none
      refine ⟨(by show 1 ≤ sizeLine; decide), fun l0 hl0 bl0 => ?_⟩
      have sl := same_new hl0 (.lst [.str "a"])
      refine ⟨_, rfl, by decide, by decide, for_range (lo := 0) (n := 39) (fun j σ M => ∃ (v11 : Option V) (lv : V), σ = [some (.ref a0), some (.ref s), v2, v3, v4, v5, v6, v7, v8, v9, some lv, v11, none] ∧ Tabs [(pp, lamQ)] M ∧ Dq M lv (lowD j))
        ⟨_, _, rfl, Tabs.ext tb sl, .lst upd_same bl0 (.cons (.str "a") .nil)⟩ ?_ ?_⟩
      · rintro j σ M hj ⟨v11, lv, rfl, tb, dq⟩
        refine ⟨_, rfl, (by show 3 ≤ sizeLine; decide), fun t ht => ?_⟩
        have sT := same_new ht (.tup [lv, .str "b", .non])
        exact ⟨_, _, rfl, Tabs.ext tb sT, .tup upd_same (.cons (dq.same sT) (.cons (.str "b") (.cons .non .nil)))⟩
      rintro σ M ⟨v11, lv, rfl, tb, dq⟩
      have ck := low_ok.2
      have nof : ∀ {q : Prop}, checkF 41 (lowD 39) = none → q := fun z => by rw [ck] at z; cases z
      refine lam_ref tb rfl dq low_ok.1 (by decide) nof (by decide) (fun N2 r1 e2 t2 fr1 an1 => ?_)
      refine ⟨(by show 1 ≤ sizeLine; decide), fun q hq => ?_⟩
      have sq := same_new hq (.lst [.ref r1])
      refine ⟨_, rfl, .inl ⟨rfl, _, SqL.of upd_same⟩, ?_⟩
      refine lam_ref (Tabs.ext t2 sq) rfl ((dq.ext e2).same sq) low_ok.1 (by decide) nof (by decide) (fun N4 r2 e4 t4 fr2 an2 => ?_)
      have eq4 := e4 q _ upd_same (fun _ z => nomatch z)
      refine ⟨q, _, _, rfl, rfl, eq4, (by show 1 < sizeLine; decide), ?_⟩
      have e24 : ExtN N2 N4 := (ExtN.of sq).trans e4
      have an15 := (an1.ext e24).upd (zs := [.ref r1] ++ [.ref r2]) (let ⟨xs, h⟩ := an1.at_; ne_of_none h hq) eq4
      have an25 := an2.upd (zs := [.ref r1] ++ [.ref r2]) (fr2 q _ upd_same (fun _ z => nomatch z)).symm eq4
      have eq5 : (L2.upd N4 q (.lst ([.ref r1] ++ [.ref r2]))) q = some (.lst [.ref r1, .ref r2]) := upd_same
      generalize L2.upd N4 q (.lst ([.ref r1] ++ [.ref r2])) = N5 at an15 an25 eq5 ⊢
      rw [ck] at an15 an25
      refine ⟨_, rfl, (by show 1 ≤ sizeLine; decide), fun z1 k1 => ?_⟩
      have c1 := same_new k1 (.tup [.int 0])
      refine ⟨z1, 39, _, rfl, rfl, SqT.of upd_same, (fun e => nomatch e), by decide, by decide, (by show 1 ≤ 1000; decide), fun z2 k2 => ?_⟩
      have er : (List.replicate (39 : Int).toNat [V.int 0]).flatten = (List.replicate 39 (0 : Int)).map V.int := by decide +kernel
      rw [er]
      have c2 := same_new k2 (.tup ((List.replicate 39 (0 : Int)).map V.int))
      refine ⟨(by show 1 ≤ sizeLine; decide), fun z3 k3 => ⟨(by show 1 ≤ sizeLine; decide), fun z4 k4 => ?_⟩⟩
      have c3 := same_new k3 (.lst [.ref z2])
      have c4 := same_new k4 (.lst [.ref z3])
      refine ⟨z4, 2, _, rfl, rfl, upd_same, by decide, by decide, (by show 1 * 2 ≤ sizeLine; decide), fun z5 k5 => ?_⟩
      have er2 : (List.replicate (2 : Int).toNat [V.ref z3]).flatten = [V.ref z3, V.ref z3] := rfl
      rw [er2]
      have c5 := same_new k5 (.lst [.ref z3, .ref z3])
      have c35 := c3.trans (c4.trans c5)
      have c15 := c1.trans (c2.trans c35)
      have an3 : Ans _ z3 (some (List.replicate 39 (0 : Int))) := .inr ⟨_, z2, rfl, (c4.trans c5) _ _ upd_same, c35 _ _ upd_same⟩
      have sh := (LayAll.list (.cons (ans_lay (some (List.replicate 39 (0 : Int)))) (.cons (ans_lay (some (List.replicate 39 (0 : Int)))) .nil))).shaped (by decide)
      refine ⟨_, _, .lst (SqL.of (c15 _ _ eq5)) (.cons (an15.ext (.of c15)).dp (.cons (an25.ext (.of c15)).dp .nil)), .lst (SqL.of upd_same) (.cons an3.dp (.cons an3.dp .nil)), sh, sh, ?_⟩
      rw [eqv_same sh]
      refine ⟨_, rfl, iteF ?_⟩
      clear c1 c2 c3 c4 c5 c35 c15 an3 sh an15 an25 eq5 eq4 e24 er er2
      generalize L2.upd _ z5 (.lst [.ref z3, .ref z3]) = M7
      -- the deep one that is a tree
      refine ⟨_, rfl, by decide, by decide, for_range (lo := 0) (n := 12) (fun j σ M => ∃ (v11 : Option V) (lv : V), σ = [some (.ref a0), some (.ref s), v2, v3, v4, v5, v6, v7, v8, some (.ref q), some (_ : V), v11, some lv] ∧ Dq M lv (deepD j))
        ⟨_, _, rfl, .str "a"⟩ ?_ ?_⟩
      · rintro j σ M hj ⟨v11, lv, rfl, dq⟩
        refine ⟨_, rfl, (by show 3 ≤ sizeLine; decide), fun t ht => ?_⟩
        have sT := same_new ht (.tup [lv, .str "b", .non])
        exact ⟨_, _, rfl, .tup upd_same (.cons (dq.same sT) (.cons (.str "b") (.cons .non .nil)))⟩
      rintro σ M ⟨v11, lv2, rfl, dq⟩
      have gd : goodF 13 (deepD 12) := deep_good 12
      refine ⟨_, rfl, ?_⟩
      simp only [tNil]
      refine top_good dq gd fun a xs M3 s3 ha ea dxs => ?_
      refine ⟨(by show 1 ≤ sizeLine; decide), fun q1 k1 _ => ⟨(by show 1 ≤ sizeLine; decide), fun q2 k2 => ?_⟩⟩
      have c1 := same_new k1 (.lst [.str "a"])
      have c2 := same_new k2 (.lst [.str "b"])
      refine ⟨q2, 12, _, rfl, rfl, upd_same, by decide, by decide, (by show 1 * 12 ≤ sizeLine; decide), fun q3 k3 => ?_⟩
      have c3 := same_new k3 (.lst (List.replicate (12 : Int).toNat [V.str "b"]).flatten)
      refine ⟨q1, q3, _, _, rfl, rfl, c3 _ _ (c2 _ _ upd_same), upd_same, (by show 1 + 12 ≤ sizeLine; decide), fun q4 k4 => ?_⟩
      have er : [V.str "a"] ++ (List.replicate (12 : Int).toNat [V.str "b"]).flatten = (("a" : Str) :: List.replicate 12 "b").map V.str := by decide +kernel
      rw [er]
      have c4 := same_new k4 (.lst ((("a" : Str) :: List.replicate 12 "b").map V.str))
      have c14 := c1.trans (c2.trans (c3.trans c4))
      have sh := ((good_leaves 13 _ gd).list).shaped (by decide)
      refine ⟨_, _, .lst (SqL.of (c14 _ _ ea)) ((dxs.same c14).dp (good_leaves 13 _ gd).nod), .lst (SqL.of upd_same) (dp_strs (("a" : Str) :: List.replicate 12 "b")), sh, (by decide +kernel), ?_⟩
      rw [deep_eqv.1]
      refine ⟨_, rfl, iteF ?_⟩
      have dq4 := dq.same (s3.trans c14)
      refine ⟨_, rfl, ?_⟩
      simp only [tNil]
      refine top_good dq4 gd fun b ys M5 s5 hb eb dys => ?_
      refine ⟨b, _, rfl, .inl (SqL.of eb), rfl, _, rfl, iteN (fun h => absurd (by rw [dys.length, deep_eqv.2]; rfl) h) (fun _ => ?_)⟩
      refine ⟨Nat.zero_le _, fun r1 h1 => ?_⟩
      simp only [tNil]
      refine top_ok (.tup upd_same .nil) nil_ok.1 nil_ok.2.1 nil_ok.2.2 fun a1 xs1 N1 u1 ha1 ea1 dx1 => ?_
      refine ⟨Nat.zero_le _, fun r2 h2 => ?_⟩
      simp only [tNil]
      refine top_ok (.tup upd_same .nil) nil_ok.1 nil_ok.2.1 nil_ok.2.2 fun a2 xs2 N2 u2 ha2 ea2 dx2 => ?_
      refine ⟨(by show 3 ≤ sizeLine; decide), fun r3 h3 => ⟨(by show 3 ≤ sizeLine; decide), fun r4 h4 => ?_⟩⟩
      have v4' := same_new h4 (.tup [.ref r3, .str "c", .non])
      simp only [tNil]
      refine top_good (.tup upd_same (.cons (.tup (v4' _ _ upd_same) (.cons (.str "a") (.cons (.str "b") (.cons (.str "p") .nil)))) (.cons (.str "c") (.cons .non .nil)))) tri_ok fun a3 xs3 N3 u3 ha3 ea3 dx3 => ?_
      refine ⟨(by show 3 ≤ sizeLine; decide), fun l1 g1 => ?_⟩
      refine ⟨Nat.zero_le _, fun l2 g2 _ => ⟨Nat.zero_le _, fun l3 g3 _ => ?_⟩⟩
      refine ⟨(by show 2 ≤ sizeLine; decide), fun m1 j1 => ⟨(by show 1 ≤ sizeLine; decide), fun m2 j2 => ⟨(by show 3 ≤ sizeLine; decide), fun m3 j3 => ⟨(by show 1 ≤ sizeLine; decide), fun m4 j4 => ⟨(by show 1 ≤ sizeLine; decide), fun m5 j5 => ⟨(by show 3 ≤ sizeLine; decide), fun m6 j6 => ⟨(by show 2 ≤ sizeLine; decide), fun m7 j7 => ⟨(by show 3 ≤ sizeLine; decide), fun m8 j8 => ?_⟩⟩⟩⟩⟩⟩⟩⟩
      have b1 := same_new g1 (.lst [.ref a1, .ref a2, .ref a3])
      have b2 := same_new g2 (.lst [])
      have b3 := same_new g3 (.lst [])
      have d1 := same_new j1 (.tup [.str "a", .str "b"])
      have d2 := same_new j2 (.tup [.str "c"])
      have d3 := same_new j3 (.tup [.non, .ref m1, .ref m2])
      have d4 := same_new j4 (.tup [.str "a"])
      have d5 := same_new j5 (.tup [.str "b"])
      have d6 := same_new j6 (.tup [.str "p", .ref m4, .ref m5])
      have d7 := same_new j7 (.lst [.ref m3, .ref m6])
      have d8 := same_new j8 (.lst [.ref l2, .ref l3, .ref m7])
      have f7 := d7.trans d8
      have f6 := d6.trans f7
      have f5 := d5.trans f6
      have f4 := d4.trans f5
      have f3 := d3.trans f4
      have f2 := d2.trans f3
      have f1 := d1.trans f2
      have e3 := b3.trans f1
      have e2 := b2.trans e3
      have e1 := b1.trans e2
      have w3 := u3.trans e1
      have w2 := (same_new h3 _).trans (v4'.trans w3)
      have w1 := (same_new h2 _).trans (u2.trans w2)
      refine ⟨.list [.list (leavesF 13 (.tuple [])), .list (forksF 13 (.tuple [])), .list (forksF 13 (.tuple [.tuple [.str "a", .str "b", .str "p"], .str "c", .none]))], .list [.list [], .list [], .list [.tuple [.none, .tuple [.str "a", .str "b"], .tuple [.str "c"]], .tuple [.str "p", .tuple [.str "a"], .tuple [.str "b"]]]],
        .lst (SqL.of (e2 _ _ upd_same)) (.cons (.lst (SqL.of (w1 _ _ ea1)) ((dx1.same w1).dp (by decide +kernel))) (.cons (.lst (SqL.of (w2 _ _ ea2)) ((dx2.same w2).dp (by decide +kernel))) (.cons (.lst (SqL.of (e1 _ _ ea3)) ((dx3.same e1).dp (by decide +kernel))) .nil))),
        .lst (SqL.of upd_same) (.cons (.lst (SqL.of (e3 _ _ upd_same)) .nil) (.cons (.lst (SqL.of (f1 _ _ upd_same)) .nil) (.cons (.lst (SqL.of (d8 _ _ upd_same)) (.cons (.tup (SqT.of (f4 _ _ upd_same)) (.cons .non (.cons (.tup (SqT.of (f2 _ _ upd_same)) (.cons (.str _) (.cons (.str _) .nil))) (.cons (.tup (SqT.of (f3 _ _ upd_same)) (.cons (.str _) .nil)) .nil))))
          (.cons (.tup (SqT.of (f7 _ _ upd_same)) (.cons (.str _) (.cons (.tup (SqT.of (f5 _ _ upd_same)) (.cons (.str _) .nil)) (.cons (.tup (SqT.of (f6 _ _ upd_same)) (.cons (.str _) .nil)) .nil)))) .nil))) .nil))), by decide +kernel, by decide +kernel, ?_⟩
      rw [last_eqv]
      exact k _
end
end My
namespace My
open PySem PySem.Spec PyProof.Rows L2
theorem tx_mk {K : PySem.W.Frag} {h : Heap} {mg : Str → Option Value} (X : K.In h) (G : h.Ns mainGlobals mg)
    {fa f_is_word f_is_empty f_is_fork f_leaves f_leaves_within f_forks f_forks_within f_check_tree f_wrong_side f_law_source f_law_pick f_law_of f_law_names f_law_odd f_law_leaves f_law_wrong_tree f_law_is_word f_law_forks_of f_law_drawn_tree f_law_bent f_law_refused f_law : Addr}
    {od_is_word an_is_word od_is_empty an_is_empty od_is_fork an_is_fork od_leaves an_leaves od_leaves_within an_leaves_within od_forks an_forks od_forks_within an_forks_within od_check_tree an_check_tree od_wrong_side an_wrong_side od_law_source an_law_source od_law_pick an_law_pick od_law_of an_law_of od_law_names an_law_names od_law_odd an_law_odd od_law_leaves an_law_leaves od_law_wrong_tree an_law_wrong_tree od_law_is_word an_law_is_word od_law_forks_of an_law_forks_of od_law_drawn_tree an_law_drawn_tree od_law_bent an_law_bent od_law_refused an_law_refused od_law an_law : Option Addr}
    {sl_is_word sl_is_empty sl_is_fork sl_leaves sl_leaves_within sl_forks sl_forks_within sl_check_tree sl_wrong_side sl_law_source sl_law_pick sl_law_of sl_law_names sl_law_odd sl_law_leaves sl_law_wrong_tree sl_law_is_word sl_law_forks_of sl_law_drawn_tree sl_law_bent sl_law_refused sl_law : Array (Option Value)}
    {oc_is_word kV_is_word dc_is_word pm_is_word cd_is_word ct_is_word oc_is_empty kV_is_empty dc_is_empty pm_is_empty cd_is_empty ct_is_empty oc_is_fork kV_is_fork dc_is_fork pm_is_fork cd_is_fork ct_is_fork oc_leaves kV_leaves dc_leaves pm_leaves cd_leaves ct_leaves oc_leaves_within kV_leaves_within dc_leaves_within pm_leaves_within cd_leaves_within ct_leaves_within oc_forks kV_forks dc_forks pm_forks cd_forks ct_forks oc_forks_within kV_forks_within dc_forks_within pm_forks_within cd_forks_within ct_forks_within oc_check_tree kV_check_tree dc_check_tree pm_check_tree cd_check_tree ct_check_tree oc_wrong_side kV_wrong_side dc_wrong_side pm_wrong_side cd_wrong_side ct_wrong_side oc_law_source kV_law_source dc_law_source pm_law_source cd_law_source ct_law_source oc_law_pick kV_law_pick dc_law_pick pm_law_pick cd_law_pick ct_law_pick oc_law_of kV_law_of dc_law_of pm_law_of cd_law_of ct_law_of oc_law_names kV_law_names dc_law_names pm_law_names cd_law_names ct_law_names oc_law_odd kV_law_odd dc_law_odd pm_law_odd cd_law_odd ct_law_odd oc_law_leaves kV_law_leaves dc_law_leaves pm_law_leaves cd_law_leaves ct_law_leaves oc_law_wrong_tree kV_law_wrong_tree dc_law_wrong_tree pm_law_wrong_tree cd_law_wrong_tree ct_law_wrong_tree oc_law_is_word kV_law_is_word dc_law_is_word pm_law_is_word cd_law_is_word ct_law_is_word oc_law_forks_of kV_law_forks_of dc_law_forks_of pm_law_forks_of cd_law_forks_of ct_law_forks_of oc_law_drawn_tree kV_law_drawn_tree dc_law_drawn_tree pm_law_drawn_tree cd_law_drawn_tree ct_law_drawn_tree oc_law_bent kV_law_bent dc_law_bent pm_law_bent cd_law_bent ct_law_bent oc_law_refused kV_law_refused dc_law_refused pm_law_refused cd_law_refused ct_law_refused oc_law kV_law dc_law pm_law ct_law : Value}
    {c0_law : Addr}
    {C_BadTree N_BadTree fi_BadTree CB0_BadTree : Addr} {nm_BadTree q_BadTree : Str} {bs_BadTree sub_BadTree : List Value} {sn_BadTree : List Str} {ab_BadTree : Bool} {col_BadTree : Option Bool} {dd_BadTree odi_BadTree ani_BadTree : Option Addr} {m0_BadTree m1_BadTree m2_BadTree m3_BadTree m5_BadTree : Option Value} {sli_BadTree : Array (Option Value)} {oci_BadTree kVi_BadTree dci_BadTree pmi_BadTree cdi_BadTree cti_BadTree : Value} (hfa : mg "law" = some (.ref fa))
    (a_is_word : PySem.W.nsIn K mainGlobals "is_word" = some (some (.ref f_is_word))) (l_is_word : K.lookup f_is_word = some ⟨oc_is_word, od_is_word, .func (PySem.W.fnOf "is_word" "is_word" (defArgs s_is_word) (defBody s_is_word) (defScope s_is_word) .none kV_is_word dc_is_word pm_is_word an_is_word cd_is_word ct_is_word), sl_is_word⟩) (c_is_word : PySem.W.codeIn K cd_is_word "is_word" = true) (k_is_word : PySem.W.keepIn K (.ref f_is_word) = true)
    (a_is_empty : PySem.W.nsIn K mainGlobals "is_empty" = some (some (.ref f_is_empty))) (l_is_empty : K.lookup f_is_empty = some ⟨oc_is_empty, od_is_empty, .func (PySem.W.fnOf "is_empty" "is_empty" (defArgs s_is_empty) (defBody s_is_empty) (defScope s_is_empty) .none kV_is_empty dc_is_empty pm_is_empty an_is_empty cd_is_empty ct_is_empty), sl_is_empty⟩) (c_is_empty : PySem.W.codeIn K cd_is_empty "is_empty" = true) (k_is_empty : PySem.W.keepIn K (.ref f_is_empty) = true)
    (a_is_fork : PySem.W.nsIn K mainGlobals "is_fork" = some (some (.ref f_is_fork))) (l_is_fork : K.lookup f_is_fork = some ⟨oc_is_fork, od_is_fork, .func (PySem.W.fnOf "is_fork" "is_fork" (defArgs s_is_fork) (defBody s_is_fork) (defScope s_is_fork) .none kV_is_fork dc_is_fork pm_is_fork an_is_fork cd_is_fork ct_is_fork), sl_is_fork⟩) (c_is_fork : PySem.W.codeIn K cd_is_fork "is_fork" = true) (k_is_fork : PySem.W.keepIn K (.ref f_is_fork) = true)
    (a_leaves : PySem.W.nsIn K mainGlobals "leaves" = some (some (.ref f_leaves))) (l_leaves : K.lookup f_leaves = some ⟨oc_leaves, od_leaves, .func (PySem.W.fnOf "leaves" "leaves" (defArgs s_leaves) (defBody s_leaves) (defScope s_leaves) .none kV_leaves dc_leaves pm_leaves an_leaves cd_leaves ct_leaves), sl_leaves⟩) (c_leaves : PySem.W.codeIn K cd_leaves "leaves" = true) (k_leaves : PySem.W.keepIn K (.ref f_leaves) = true)
    (a_leaves_within : PySem.W.nsIn K mainGlobals "leaves_within" = some (some (.ref f_leaves_within))) (l_leaves_within : K.lookup f_leaves_within = some ⟨oc_leaves_within, od_leaves_within, .func (PySem.W.fnOf "leaves_within" "leaves_within" (defArgs s_leaves_within) (defBody s_leaves_within) (defScope s_leaves_within) .none kV_leaves_within dc_leaves_within pm_leaves_within an_leaves_within cd_leaves_within ct_leaves_within), sl_leaves_within⟩) (c_leaves_within : PySem.W.codeIn K cd_leaves_within "leaves_within" = true) (k_leaves_within : PySem.W.keepIn K (.ref f_leaves_within) = true)
    (a_forks : PySem.W.nsIn K mainGlobals "forks" = some (some (.ref f_forks))) (l_forks : K.lookup f_forks = some ⟨oc_forks, od_forks, .func (PySem.W.fnOf "forks" "forks" (defArgs s_forks) (defBody s_forks) (defScope s_forks) .none kV_forks dc_forks pm_forks an_forks cd_forks ct_forks), sl_forks⟩) (c_forks : PySem.W.codeIn K cd_forks "forks" = true) (k_forks : PySem.W.keepIn K (.ref f_forks) = true)
    (a_forks_within : PySem.W.nsIn K mainGlobals "forks_within" = some (some (.ref f_forks_within))) (l_forks_within : K.lookup f_forks_within = some ⟨oc_forks_within, od_forks_within, .func (PySem.W.fnOf "forks_within" "forks_within" (defArgs s_forks_within) (defBody s_forks_within) (defScope s_forks_within) .none kV_forks_within dc_forks_within pm_forks_within an_forks_within cd_forks_within ct_forks_within), sl_forks_within⟩) (c_forks_within : PySem.W.codeIn K cd_forks_within "forks_within" = true) (k_forks_within : PySem.W.keepIn K (.ref f_forks_within) = true)
    (a_check_tree : PySem.W.nsIn K mainGlobals "check_tree" = some (some (.ref f_check_tree))) (l_check_tree : K.lookup f_check_tree = some ⟨oc_check_tree, od_check_tree, .func (PySem.W.fnOf "check_tree" "check_tree" (defArgs s_check_tree) (defBody s_check_tree) (defScope s_check_tree) .none kV_check_tree dc_check_tree pm_check_tree an_check_tree cd_check_tree ct_check_tree), sl_check_tree⟩) (c_check_tree : PySem.W.codeIn K cd_check_tree "check_tree" = true) (k_check_tree : PySem.W.keepIn K (.ref f_check_tree) = true)
    (a_wrong_side : PySem.W.nsIn K mainGlobals "wrong_side" = some (some (.ref f_wrong_side))) (l_wrong_side : K.lookup f_wrong_side = some ⟨oc_wrong_side, od_wrong_side, .func (PySem.W.fnOf "wrong_side" "wrong_side" (defArgs s_wrong_side) (defBody s_wrong_side) (defScope s_wrong_side) .none kV_wrong_side dc_wrong_side pm_wrong_side an_wrong_side cd_wrong_side ct_wrong_side), sl_wrong_side⟩) (c_wrong_side : PySem.W.codeIn K cd_wrong_side "wrong_side" = true) (k_wrong_side : PySem.W.keepIn K (.ref f_wrong_side) = true)
    (a_law_source : PySem.W.nsIn K mainGlobals "_law_source" = some (some (.ref f_law_source))) (l_law_source : K.lookup f_law_source = some ⟨oc_law_source, od_law_source, .func (PySem.W.fnOf "_law_source" "_law_source" (defArgs s_law_source) (defBody s_law_source) (defScope s_law_source) .none kV_law_source dc_law_source pm_law_source an_law_source cd_law_source ct_law_source), sl_law_source⟩) (c_law_source : PySem.W.codeIn K cd_law_source "_law_source" = true) (k_law_source : PySem.W.keepIn K (.ref f_law_source) = true)
    (a_law_pick : PySem.W.nsIn K mainGlobals "_law_pick" = some (some (.ref f_law_pick))) (l_law_pick : K.lookup f_law_pick = some ⟨oc_law_pick, od_law_pick, .func (PySem.W.fnOf "_law_pick" "_law_pick" (defArgs s_law_pick) (defBody s_law_pick) (defScope s_law_pick) .none kV_law_pick dc_law_pick pm_law_pick an_law_pick cd_law_pick ct_law_pick), sl_law_pick⟩) (c_law_pick : PySem.W.codeIn K cd_law_pick "_law_pick" = true) (k_law_pick : PySem.W.keepIn K (.ref f_law_pick) = true)
    (a_law_of : PySem.W.nsIn K mainGlobals "_law_of" = some (some (.ref f_law_of))) (l_law_of : K.lookup f_law_of = some ⟨oc_law_of, od_law_of, .func (PySem.W.fnOf "_law_of" "_law_of" (defArgs s_law_of) (defBody s_law_of) (defScope s_law_of) .none kV_law_of dc_law_of pm_law_of an_law_of cd_law_of ct_law_of), sl_law_of⟩) (c_law_of : PySem.W.codeIn K cd_law_of "_law_of" = true) (k_law_of : PySem.W.keepIn K (.ref f_law_of) = true)
    (a_law_names : PySem.W.nsIn K mainGlobals "_law_names" = some (some (.ref f_law_names))) (l_law_names : K.lookup f_law_names = some ⟨oc_law_names, od_law_names, .func (PySem.W.fnOf "_law_names" "_law_names" (defArgs s_law_names) (defBody s_law_names) (defScope s_law_names) .none kV_law_names dc_law_names pm_law_names an_law_names cd_law_names ct_law_names), sl_law_names⟩) (c_law_names : PySem.W.codeIn K cd_law_names "_law_names" = true) (k_law_names : PySem.W.keepIn K (.ref f_law_names) = true)
    (a_law_odd : PySem.W.nsIn K mainGlobals "_law_odd" = some (some (.ref f_law_odd))) (l_law_odd : K.lookup f_law_odd = some ⟨oc_law_odd, od_law_odd, .func (PySem.W.fnOf "_law_odd" "_law_odd" (defArgs s_law_odd) (defBody s_law_odd) (defScope s_law_odd) .none kV_law_odd dc_law_odd pm_law_odd an_law_odd cd_law_odd ct_law_odd), sl_law_odd⟩) (c_law_odd : PySem.W.codeIn K cd_law_odd "_law_odd" = true) (k_law_odd : PySem.W.keepIn K (.ref f_law_odd) = true)
    (a_law_leaves : PySem.W.nsIn K mainGlobals "_law_leaves" = some (some (.ref f_law_leaves))) (l_law_leaves : K.lookup f_law_leaves = some ⟨oc_law_leaves, od_law_leaves, .func (PySem.W.fnOf "_law_leaves" "_law_leaves" (defArgs s_law_leaves) (defBody s_law_leaves) (defScope s_law_leaves) .none kV_law_leaves dc_law_leaves pm_law_leaves an_law_leaves cd_law_leaves ct_law_leaves), sl_law_leaves⟩) (c_law_leaves : PySem.W.codeIn K cd_law_leaves "_law_leaves" = true) (k_law_leaves : PySem.W.keepIn K (.ref f_law_leaves) = true)
    (a_law_wrong_tree : PySem.W.nsIn K mainGlobals "_law_wrong_tree" = some (some (.ref f_law_wrong_tree))) (l_law_wrong_tree : K.lookup f_law_wrong_tree = some ⟨oc_law_wrong_tree, od_law_wrong_tree, .func (PySem.W.fnOf "_law_wrong_tree" "_law_wrong_tree" (defArgs s_law_wrong_tree) (defBody s_law_wrong_tree) (defScope s_law_wrong_tree) .none kV_law_wrong_tree dc_law_wrong_tree pm_law_wrong_tree an_law_wrong_tree cd_law_wrong_tree ct_law_wrong_tree), sl_law_wrong_tree⟩) (c_law_wrong_tree : PySem.W.codeIn K cd_law_wrong_tree "_law_wrong_tree" = true) (k_law_wrong_tree : PySem.W.keepIn K (.ref f_law_wrong_tree) = true)
    (a_law_is_word : PySem.W.nsIn K mainGlobals "_law_is_word" = some (some (.ref f_law_is_word))) (l_law_is_word : K.lookup f_law_is_word = some ⟨oc_law_is_word, od_law_is_word, .func (PySem.W.fnOf "_law_is_word" "_law_is_word" (defArgs s_law_is_word) (defBody s_law_is_word) (defScope s_law_is_word) .none kV_law_is_word dc_law_is_word pm_law_is_word an_law_is_word cd_law_is_word ct_law_is_word), sl_law_is_word⟩) (c_law_is_word : PySem.W.codeIn K cd_law_is_word "_law_is_word" = true) (k_law_is_word : PySem.W.keepIn K (.ref f_law_is_word) = true)
    (a_law_forks_of : PySem.W.nsIn K mainGlobals "_law_forks_of" = some (some (.ref f_law_forks_of))) (l_law_forks_of : K.lookup f_law_forks_of = some ⟨oc_law_forks_of, od_law_forks_of, .func (PySem.W.fnOf "_law_forks_of" "_law_forks_of" (defArgs s_law_forks_of) (defBody s_law_forks_of) (defScope s_law_forks_of) .none kV_law_forks_of dc_law_forks_of pm_law_forks_of an_law_forks_of cd_law_forks_of ct_law_forks_of), sl_law_forks_of⟩) (c_law_forks_of : PySem.W.codeIn K cd_law_forks_of "_law_forks_of" = true) (k_law_forks_of : PySem.W.keepIn K (.ref f_law_forks_of) = true)
    (a_law_drawn_tree : PySem.W.nsIn K mainGlobals "_law_drawn_tree" = some (some (.ref f_law_drawn_tree))) (l_law_drawn_tree : K.lookup f_law_drawn_tree = some ⟨oc_law_drawn_tree, od_law_drawn_tree, .func (PySem.W.fnOf "_law_drawn_tree" "_law_drawn_tree" (defArgs s_law_drawn_tree) (defBody s_law_drawn_tree) (defScope s_law_drawn_tree) .none kV_law_drawn_tree dc_law_drawn_tree pm_law_drawn_tree an_law_drawn_tree cd_law_drawn_tree ct_law_drawn_tree), sl_law_drawn_tree⟩) (c_law_drawn_tree : PySem.W.codeIn K cd_law_drawn_tree "_law_drawn_tree" = true) (k_law_drawn_tree : PySem.W.keepIn K (.ref f_law_drawn_tree) = true)
    (a_law_bent : PySem.W.nsIn K mainGlobals "_law_bent" = some (some (.ref f_law_bent))) (l_law_bent : K.lookup f_law_bent = some ⟨oc_law_bent, od_law_bent, .func (PySem.W.fnOf "_law_bent" "_law_bent" (defArgs s_law_bent) (defBody s_law_bent) (defScope s_law_bent) .none kV_law_bent dc_law_bent pm_law_bent an_law_bent cd_law_bent ct_law_bent), sl_law_bent⟩) (c_law_bent : PySem.W.codeIn K cd_law_bent "_law_bent" = true) (k_law_bent : PySem.W.keepIn K (.ref f_law_bent) = true)
    (a_law_refused : PySem.W.nsIn K mainGlobals "_law_refused" = some (some (.ref f_law_refused))) (l_law_refused : K.lookup f_law_refused = some ⟨oc_law_refused, od_law_refused, .func (PySem.W.fnOf "_law_refused" "_law_refused" (defArgs s_law_refused) (defBody s_law_refused) (defScope s_law_refused) .none kV_law_refused dc_law_refused pm_law_refused an_law_refused cd_law_refused ct_law_refused), sl_law_refused⟩) (c_law_refused : PySem.W.codeIn K cd_law_refused "_law_refused" = true) (k_law_refused : PySem.W.keepIn K (.ref f_law_refused) = true)
    (a_law : PySem.W.nsIn K mainGlobals "law" = some (some (.ref f_law))) (l_law : K.lookup f_law = some ⟨oc_law, od_law, .func (PySem.W.fnOf "law" "law" (defArgs s_law) (defBody s_law) (defScope s_law) .none kV_law dc_law pm_law an_law (.ref c0_law) ct_law), sl_law⟩) (c_law : PySem.W.codeIn K (.ref c0_law) "law" = true) (k_law : PySem.W.keepIn K (.ref f_law) = true)
    (PP : Addr) (hh_law : PySem.W.codeHdIn K c0_law PP = true) (np_law : K.lookup PP = none)
    (aC_BadTree : PySem.W.nsIn K mainGlobals "BadTree" = some (some (.ref C_BadTree)))
    (xL_BadTree : K.lookup C_BadTree = some (excClassObj nm_BadTree q_BadTree C_BadTree N_BadTree bs_BadTree [.ref CB0_BadTree, .type "ValueError", .type "Exception", .type "BaseException", .type "object"] true sn_BadTree sub_BadTree ab_BadTree col_BadTree dd_BadTree m0_BadTree m1_BadTree m2_BadTree m3_BadTree m5_BadTree "ValueError.__new__"))
    (sa_BadTree : PySem.W.findIn K (.ref C_BadTree) "__setattr__" = some (some (.builtin "object.__setattr__")))
    (ga_BadTree : PySem.W.findIn K (.ref C_BadTree) "__getattribute__" = some (some (.builtin "BaseException.__getattribute__")))
    (gg_BadTree : PySem.W.findIn K (.ref C_BadTree) "__getattr__" = some none)
    (nf_BadTree : PySem.W.findIn K (.ref C_BadTree) "path" = some none)
    (ai_BadTree : PySem.W.findIn K (.ref C_BadTree) "__init__" = some (some (.ref fi_BadTree)))
    (ti_BadTree : PySem.W.typeIn K (.ref fi_BadTree) = some (.type "function"))
    (li_BadTree : K.lookup fi_BadTree = some ⟨oci_BadTree, odi_BadTree, .func (PySem.W.fnOf "__init__" "BadTree.__init__" (defArgs (initOf s_BadTree)) (defBody (initOf s_BadTree)) (defScope (initOf s_BadTree)) .none kVi_BadTree dci_BadTree pmi_BadTree ani_BadTree cdi_BadTree cti_BadTree), sli_BadTree⟩)
    (ci_BadTree : PySem.W.codeIn K cdi_BadTree "BadTree.__init__" = true)
    (ki_BadTree : PySem.W.keepIn K (.ref fi_BadTree) = true)
    (kC_BadTree : PySem.W.keepIn K (.ref C_BadTree) = true)
    (eC_BadTree : PySem.W.subIn K (.ref C_BadTree) (.type "BaseException") = some true)
    (tC_BadTree : PySem.W.typeIn K (.ref C_BadTree) = some (.type "type"))
    (hC_BadTree : PySem.W.hasDictIn K C_BadTree = true)
    (iC_BadTree : PySem.W.isClsIn K C_BadTree = true)
    (sC_BadTree : PySem.W.subIn K (.ref C_BadTree) (.ref C_BadTree) = some true)
    {tk_DIGITS : Tok} (zc_DIGITS : PySem.W.nsIn K mainGlobals "DIGITS" = some (some (.str "0123456789" tk_DIGITS)))
    {tk_LETTERS : Tok} (zc_LETTERS : PySem.W.nsIn K mainGlobals "LETTERS" = some (some (.str "abcdefghijklmnopqrstuvwxyz" tk_LETTERS)))
    {tk_LONGEST_WORD : Tok} (zc_LONGEST_WORD : PySem.W.nsIn K mainGlobals "LONGEST_WORD" = some (some (.int 12 tk_LONGEST_WORD)))
    (zn_abs : PySem.W.nsIn K mainGlobals "abs" = some none)
    (zn_all : PySem.W.nsIn K mainGlobals "all" = some none)
    (zn_int : PySem.W.nsIn K mainGlobals "int" = some none)
    (zn_isinstance : PySem.W.nsIn K mainGlobals "isinstance" = some none)
    (zn_len : PySem.W.nsIn K mainGlobals "len" = some none)
    (zn_list : PySem.W.nsIn K mainGlobals "list" = some none)
    (zn_max : PySem.W.nsIn K mainGlobals "max" = some none)
    (zn_range : PySem.W.nsIn K mainGlobals "range" = some none)
    (zn_repr : PySem.W.nsIn K mainGlobals "repr" = some none)
    (zn_str : PySem.W.nsIn K mainGlobals "str" = some none)
    (zn_tuple : PySem.W.nsIn K mainGlobals "tuple" = some none) :
    ∃ T : Tx K mg, T.a_law = fa ∧ (∀ (s : Shared) (v : Value), BindsTo s T.fd_law ⟨[v], []⟩ [("_law_script", v)]) ∧ CodeAt K fa c0_law ∧ K.lookup PP = none ∧ PySem.W.CodeHd h c0_law PP := by
  have e := hfa.symm.trans (PySem.W.mg_of X G a_law)
  cases e
  have F_is_word := fun_mk (st := s_is_word) l_is_word c_is_word k_is_word
  have b_is_word := F_is_word.binds (ps := ["value"]) fun _ _ _ _ _ _ us hl => match us, hl with | [_], _ => rfl
  have F_is_empty := fun_mk (st := s_is_empty) l_is_empty c_is_empty k_is_empty
  have b_is_empty := F_is_empty.binds (ps := ["value"]) fun _ _ _ _ _ _ us hl => match us, hl with | [_], _ => rfl
  have F_is_fork := fun_mk (st := s_is_fork) l_is_fork c_is_fork k_is_fork
  have b_is_fork := F_is_fork.binds (ps := ["value"]) fun _ _ _ _ _ _ us hl => match us, hl with | [_], _ => rfl
  have F_leaves := fun_mk (st := s_leaves) l_leaves c_leaves k_leaves
  have b_leaves := F_leaves.binds (ps := ["tree"]) fun _ _ _ _ _ _ us hl => match us, hl with | [_], _ => rfl
  have F_leaves_within := fun_mk (st := s_leaves_within) l_leaves_within c_leaves_within k_leaves_within
  have b_leaves_within := F_leaves_within.binds (ps := ["tree"]) fun _ _ _ _ _ _ us hl => match us, hl with | [_], _ => rfl
  have F_forks := fun_mk (st := s_forks) l_forks c_forks k_forks
  have b_forks := F_forks.binds (ps := ["tree"]) fun _ _ _ _ _ _ us hl => match us, hl with | [_], _ => rfl
  have F_forks_within := fun_mk (st := s_forks_within) l_forks_within c_forks_within k_forks_within
  have b_forks_within := F_forks_within.binds (ps := ["tree"]) fun _ _ _ _ _ _ us hl => match us, hl with | [_], _ => rfl
  have F_check_tree := fun_mk (st := s_check_tree) l_check_tree c_check_tree k_check_tree
  have b_check_tree := F_check_tree.binds (ps := ["tree"]) fun _ _ _ _ _ _ us hl => match us, hl with | [_], _ => rfl
  have F_wrong_side := fun_mk (st := s_wrong_side) l_wrong_side c_wrong_side k_wrong_side
  have b_wrong_side := F_wrong_side.binds (ps := ["value"]) fun _ _ _ _ _ _ us hl => match us, hl with | [_], _ => rfl
  have F_law_source := fun_mk (st := s_law_source) l_law_source c_law_source k_law_source
  have b_law_source := F_law_source.binds (ps := ["_law_script"]) fun _ _ _ _ _ _ us hl => match us, hl with | [_], _ => rfl
  have F_law_pick := fun_mk (st := s_law_pick) l_law_pick c_law_pick k_law_pick
  have b_law_pick := F_law_pick.binds (ps := ["_law_source_here", "_law_many"]) fun _ _ _ _ _ _ us hl => match us, hl with | [_, _], _ => rfl
  have F_law_of := fun_mk (st := s_law_of) l_law_of c_law_of k_law_of
  have b_law_of := F_law_of.binds (ps := ["_law_source_here", "_law_some"]) fun _ _ _ _ _ _ us hl => match us, hl with | [_, _], _ => rfl
  have F_law_names := fun_mk (st := s_law_names) l_law_names c_law_names k_law_names
  have b_law_names := F_law_names.binds (ps := ["_law_source_here", "_law_many"]) fun _ _ _ _ _ _ us hl => match us, hl with | [_, _], _ => rfl
  have F_law_odd := fun_mk (st := s_law_odd) l_law_odd c_law_odd k_law_odd
  have b_law_odd := F_law_odd.binds (ps := ["_law_source_here"]) fun _ _ _ _ _ _ us hl => match us, hl with | [_], _ => rfl
  have F_law_leaves := fun_mk (st := s_law_leaves) l_law_leaves c_law_leaves k_law_leaves
  have b_law_leaves := F_law_leaves.binds (ps := ["_law_tree"]) fun _ _ _ _ _ _ us hl => match us, hl with | [_], _ => rfl
  have F_law_wrong_tree := fun_mk (st := s_law_wrong_tree) l_law_wrong_tree c_law_wrong_tree k_law_wrong_tree
  have b_law_wrong_tree := F_law_wrong_tree.binds (ps := ["_law_value"]) fun _ _ _ _ _ _ us hl => match us, hl with | [_], _ => rfl
  have F_law_is_word := fun_mk (st := s_law_is_word) l_law_is_word c_law_is_word k_law_is_word
  have b_law_is_word := F_law_is_word.binds (ps := ["_law_value"]) fun _ _ _ _ _ _ us hl => match us, hl with | [_], _ => rfl
  have F_law_forks_of := fun_mk (st := s_law_forks_of) l_law_forks_of c_law_forks_of k_law_forks_of
  have b_law_forks_of := F_law_forks_of.binds (ps := ["_law_tree"]) fun _ _ _ _ _ _ us hl => match us, hl with | [_], _ => rfl
  have F_law_drawn_tree := fun_mk (st := s_law_drawn_tree) l_law_drawn_tree c_law_drawn_tree k_law_drawn_tree
  have b_law_drawn_tree := F_law_drawn_tree.binds (ps := ["_law_source_here", "_law_room"]) fun _ _ _ _ _ _ us hl => match us, hl with | [_, _], _ => rfl
  have F_law_bent := fun_mk (st := s_law_bent) l_law_bent c_law_bent k_law_bent
  have b_law_bent := F_law_bent.binds (ps := ["_law_source_here", "_law_tree"]) fun _ _ _ _ _ _ us hl => match us, hl with | [_, _], _ => rfl
  have F_law_refused := fun_mk (st := s_law_refused) l_law_refused c_law_refused k_law_refused
  have b_law_refused := F_law_refused.binds (ps := ["_law_call"]) fun _ _ _ _ _ _ us hl => match us, hl with | [_], _ => rfl
  have F_law := fun_mk (st := s_law) l_law c_law k_law
  have b_law := F_law.binds (ps := ["_law_script"]) fun _ _ _ _ _ _ us hl => match us, hl with | [_], _ => rfl
  have Fi_BadTree := fun_mk (st := initOf s_BadTree) li_BadTree ci_BadTree ki_BadTree
  have bi_BadTree := Fi_BadTree.binds (ps := ["self", "path"]) fun _ _ _ _ _ _ us hl => match us, hl with | [_, _], _ => rfl
  exact ⟨{ a_is_word := f_is_word, fd_is_word := _, F_is_word := F_is_word, b_is_word := b_is_word, m_is_word := PySem.W.mg_of X G a_is_word, a_is_empty := f_is_empty, fd_is_empty := _, F_is_empty := F_is_empty, b_is_empty := b_is_empty, m_is_empty := PySem.W.mg_of X G a_is_empty, a_is_fork := f_is_fork, fd_is_fork := _, F_is_fork := F_is_fork, b_is_fork := b_is_fork, m_is_fork := PySem.W.mg_of X G a_is_fork, a_leaves := f_leaves, fd_leaves := _, F_leaves := F_leaves, b_leaves := b_leaves, m_leaves := PySem.W.mg_of X G a_leaves, a_leaves_within := f_leaves_within, fd_leaves_within := _, F_leaves_within := F_leaves_within, b_leaves_within := b_leaves_within, m_leaves_within := PySem.W.mg_of X G a_leaves_within, a_forks := f_forks, fd_forks := _, F_forks := F_forks, b_forks := b_forks, m_forks := PySem.W.mg_of X G a_forks, a_forks_within := f_forks_within, fd_forks_within := _, F_forks_within := F_forks_within, b_forks_within := b_forks_within, m_forks_within := PySem.W.mg_of X G a_forks_within, a_check_tree := f_check_tree, fd_check_tree := _, F_check_tree := F_check_tree, b_check_tree := b_check_tree, m_check_tree := PySem.W.mg_of X G a_check_tree, a_wrong_side := f_wrong_side, fd_wrong_side := _, F_wrong_side := F_wrong_side, b_wrong_side := b_wrong_side, m_wrong_side := PySem.W.mg_of X G a_wrong_side, a_law_source := f_law_source, fd_law_source := _, F_law_source := F_law_source, b_law_source := b_law_source, m_law_source := PySem.W.mg_of X G a_law_source, a_law_pick := f_law_pick, fd_law_pick := _, F_law_pick := F_law_pick, b_law_pick := b_law_pick, m_law_pick := PySem.W.mg_of X G a_law_pick, a_law_of := f_law_of, fd_law_of := _, F_law_of := F_law_of, b_law_of := b_law_of, m_law_of := PySem.W.mg_of X G a_law_of, a_law_names := f_law_names, fd_law_names := _, F_law_names := F_law_names, b_law_names := b_law_names, m_law_names := PySem.W.mg_of X G a_law_names, a_law_odd := f_law_odd, fd_law_odd := _, F_law_odd := F_law_odd, b_law_odd := b_law_odd, m_law_odd := PySem.W.mg_of X G a_law_odd, a_law_leaves := f_law_leaves, fd_law_leaves := _, F_law_leaves := F_law_leaves, b_law_leaves := b_law_leaves, m_law_leaves := PySem.W.mg_of X G a_law_leaves, a_law_wrong_tree := f_law_wrong_tree, fd_law_wrong_tree := _, F_law_wrong_tree := F_law_wrong_tree, b_law_wrong_tree := b_law_wrong_tree, m_law_wrong_tree := PySem.W.mg_of X G a_law_wrong_tree, a_law_is_word := f_law_is_word, fd_law_is_word := _, F_law_is_word := F_law_is_word, b_law_is_word := b_law_is_word, m_law_is_word := PySem.W.mg_of X G a_law_is_word, a_law_forks_of := f_law_forks_of, fd_law_forks_of := _, F_law_forks_of := F_law_forks_of, b_law_forks_of := b_law_forks_of, m_law_forks_of := PySem.W.mg_of X G a_law_forks_of, a_law_drawn_tree := f_law_drawn_tree, fd_law_drawn_tree := _, F_law_drawn_tree := F_law_drawn_tree, b_law_drawn_tree := b_law_drawn_tree, m_law_drawn_tree := PySem.W.mg_of X G a_law_drawn_tree, a_law_bent := f_law_bent, fd_law_bent := _, F_law_bent := F_law_bent, b_law_bent := b_law_bent, m_law_bent := PySem.W.mg_of X G a_law_bent, a_law_refused := f_law_refused, fd_law_refused := _, F_law_refused := F_law_refused, b_law_refused := b_law_refused, m_law_refused := PySem.W.mg_of X G a_law_refused, a_law := _, fd_law := _, F_law := F_law, b_law := b_law, m_law := PySem.W.mg_of X G a_law, c_DIGITS := ⟨_, PySem.W.mg_of X G zc_DIGITS⟩, c_LETTERS := ⟨_, PySem.W.mg_of X G zc_LETTERS⟩, c_LONGEST_WORD := ⟨_, PySem.W.mg_of X G zc_LONGEST_WORD⟩, n_abs := PySem.W.mg_none_of X G zn_abs, n_all := PySem.W.mg_none_of X G zn_all, n_int := PySem.W.mg_none_of X G zn_int, n_isinstance := PySem.W.mg_none_of X G zn_isinstance, n_len := PySem.W.mg_none_of X G zn_len, n_list := PySem.W.mg_none_of X G zn_list, n_max := PySem.W.mg_none_of X G zn_max, n_range := PySem.W.mg_none_of X G zn_range, n_repr := PySem.W.mg_none_of X G zn_repr, n_str := PySem.W.mg_none_of X G zn_str, n_tuple := PySem.W.mg_none_of X G zn_tuple, e_BadTree := { C := C_BadTree, fI := fi_BadTree, fd := _, oex := { cls := ⟨nm_BadTree, q_BadTree, N_BadTree, bs_BadTree, _, sn_BadTree, sub_BadTree, ab_BadTree, col_BadTree, dd_BadTree, m0_BadTree, m1_BadTree, m2_BadTree, m3_BadTree, m5_BadTree, xL_BadTree, rfl⟩, sa := sa_BadTree, exC := eC_BadTree, tyC := tC_BadTree, kC := kC_BadTree }, xf := ⟨ga_BadTree, gg_BadTree, eC_BadTree, hC_BadTree⟩, iC := ai_BadTree, tI := ti_BadTree, noF := nf_BadTree, F := Fi_BadTree, b := bi_BadTree, m := PySem.W.mg_of X G aC_BadTree, te := exm_own eC_BadTree iC_BadTree tC_BadTree sC_BadTree } }, rfl, fun s v => .of_eq rfl, ⟨_, _, _, _, l_law, rfl⟩, np_law, PySem.W.codeHd_of_K X hh_law⟩
theorem walk {l : PySem.W.OpenLaw} {q : Program} {loose : List Str} {XP : (Str → Option Value) → Heap → Prop} {YP : World → Heap → Prop} {d : DefRec} {K : Params → PySem.W.Frag} {pp : Addr} (hn : l.most = some 63) (hdf : d.params.defaults = [])
    (hY : ∀ (w : World) (h : Heap), YP w h → (K w.params).In h ∧ h.get? pp = some (PySem.W.tabObj #[]))
    (F : ∀ (w : World) (mg : Str → Option Value) (fa : Addr) (h : Heap), (K w.params).In h → h.Ns mainGlobals mg → mg d.name = some (.ref fa) →
      ∃ (fd : FuncData) (c : Addr), (K w.params).lookup pp = none ∧ PySem.W.CodeHd h c pp ∧ (∀ (s : Shared) (u : Value), BindsTo s fd ⟨[u], []⟩ [("_law_script", u)]) ∧ ∀ base : Heap, (K w.params).In base → base.Ns mainGlobals mg → LamX.TabB base mg c pp → FnG l.prog w (K w.params) mg base 61 fa fd ["_law_script"] (spLawT (K w.params) pp)) :
    PySem.W.WalkO q loose XP YP l.row.toRowW d [] (fun f vs => PySem.call f vs) :=
  walk_ofT (n := 63) (k := 61) (p := pp) (x := "_law_script") (sp := fun w => spLawT (K w.params) pp) hn (by decide) hdf ⟨rfl, by decide, by decide⟩ hY F fun _ _ a ns hl hp hS => ⟨a, ns, rfl, hS, hl, hp, fun _ => rfl⟩
end My
open PySem PySem.W PyProof.Rows
set_option maxRecDepth 100000 in
set_option maxHeartbeats 0 in
theorem PySem.Challenge.cw_eitherbarter_k19_whole_leaves_and_forks_holds : PySem.Challenge.rw_eitherbarter_k19_whole_leaves_and_forks.Holds := by
  w_on; o_law; k_head; (case hw => w_witness2)
  k_fill
  refine My.walk (l := PySem.Challenge.rw_eitherbarter_k19_whole_leaves_and_forks) (pp := 189) rfl rfl (fun w h Y => ⟨PySem.W.km_in_of Y, PySem.W.km_tabs_of Y 189 (by decide)⟩) ?F
  case F =>
    intro w mg fa h KX G hmg
    refine' Exists.elim (My.tx_mk KX G hmg ?a_is_word ?l_is_word ?c_is_word ?k_is_word ?a_is_empty ?l_is_empty ?c_is_empty ?k_is_empty ?a_is_fork ?l_is_fork ?c_is_fork ?k_is_fork ?a_leaves ?l_leaves ?c_leaves ?k_leaves ?a_leaves_within ?l_leaves_within ?c_leaves_within ?k_leaves_within ?a_forks ?l_forks ?c_forks ?k_forks ?a_forks_within ?l_forks_within ?c_forks_within ?k_forks_within ?a_check_tree ?l_check_tree ?c_check_tree ?k_check_tree ?a_wrong_side ?l_wrong_side ?c_wrong_side ?k_wrong_side ?a_law_source ?l_law_source ?c_law_source ?k_law_source ?a_law_pick ?l_law_pick ?c_law_pick ?k_law_pick ?a_law_of ?l_law_of ?c_law_of ?k_law_of ?a_law_names ?l_law_names ?c_law_names ?k_law_names ?a_law_odd ?l_law_odd ?c_law_odd ?k_law_odd ?a_law_leaves ?l_law_leaves ?c_law_leaves ?k_law_leaves ?a_law_wrong_tree ?l_law_wrong_tree ?c_law_wrong_tree ?k_law_wrong_tree ?a_law_is_word ?l_law_is_word ?c_law_is_word ?k_law_is_word ?a_law_forks_of ?l_law_forks_of ?c_law_forks_of ?k_law_forks_of ?a_law_drawn_tree ?l_law_drawn_tree ?c_law_drawn_tree ?k_law_drawn_tree ?a_law_bent ?l_law_bent ?c_law_bent ?k_law_bent ?a_law_refused ?l_law_refused ?c_law_refused ?k_law_refused ?a_law ?l_law ?c_law ?k_law 189 ?hh_law ?np_law ?aC_BadTree ?xL_BadTree ?sa_BadTree ?ga_BadTree ?gg_BadTree ?nf_BadTree ?ai_BadTree ?ti_BadTree ?li_BadTree ?ci_BadTree ?ki_BadTree ?kC_BadTree ?eC_BadTree ?tC_BadTree ?hC_BadTree ?iC_BadTree ?sC_BadTree ?zc_DIGITS ?zc_LETTERS ?zc_LONGEST_WORD ?zn_abs ?zn_all ?zn_int ?zn_isinstance ?zn_len ?zn_list ?zn_max ?zn_range ?zn_repr ?zn_str ?zn_tuple) (fun T hT => ?fin)
    (case a_is_word => k_is)
    (case l_is_word => k_is)
    (case c_is_word => k_is)
    (case k_is_word => k_is)
    (case a_is_empty => k_is)
    (case l_is_empty => k_is)
    (case c_is_empty => k_is)
    (case k_is_empty => k_is)
    (case a_is_fork => k_is)
    (case l_is_fork => k_is)
    (case c_is_fork => k_is)
    (case k_is_fork => k_is)
    (case a_leaves => k_is)
    (case l_leaves => k_is)
    (case c_leaves => k_is)
    (case k_leaves => k_is)
    (case a_leaves_within => k_is)
    (case l_leaves_within => k_is)
    (case c_leaves_within => k_is)
    (case k_leaves_within => k_is)
    (case a_forks => k_is)
    (case l_forks => k_is)
    (case c_forks => k_is)
    (case k_forks => k_is)
    (case a_forks_within => k_is)
    (case l_forks_within => k_is)
    (case c_forks_within => k_is)
    (case k_forks_within => k_is)
    (case a_check_tree => k_is)
    (case l_check_tree => k_is)
    (case c_check_tree => k_is)
    (case k_check_tree => k_is)
    (case a_wrong_side => k_is)
    (case l_wrong_side => k_is)
    (case c_wrong_side => k_is)
    (case k_wrong_side => k_is)
    (case a_law_source => k_is)
    (case l_law_source => k_is)
    (case c_law_source => k_is)
    (case k_law_source => k_is)
    (case a_law_pick => k_is)
    (case l_law_pick => k_is)
    (case c_law_pick => k_is)
    (case k_law_pick => k_is)
    (case a_law_of => k_is)
    (case l_law_of => k_is)
    (case c_law_of => k_is)
    (case k_law_of => k_is)
    (case a_law_names => k_is)
    (case l_law_names => k_is)
    (case c_law_names => k_is)
    (case k_law_names => k_is)
    (case a_law_odd => k_is)
    (case l_law_odd => k_is)
    (case c_law_odd => k_is)
    (case k_law_odd => k_is)
    (case a_law_leaves => k_is)
    (case l_law_leaves => k_is)
    (case c_law_leaves => k_is)
    (case k_law_leaves => k_is)
    (case a_law_wrong_tree => k_is)
    (case l_law_wrong_tree => k_is)
    (case c_law_wrong_tree => k_is)
    (case k_law_wrong_tree => k_is)
    (case a_law_is_word => k_is)
    (case l_law_is_word => k_is)
    (case c_law_is_word => k_is)
    (case k_law_is_word => k_is)
    (case a_law_forks_of => k_is)
    (case l_law_forks_of => k_is)
    (case c_law_forks_of => k_is)
    (case k_law_forks_of => k_is)
    (case a_law_drawn_tree => k_is)
    (case l_law_drawn_tree => k_is)
    (case c_law_drawn_tree => k_is)
    (case k_law_drawn_tree => k_is)
    (case a_law_bent => k_is)
    (case l_law_bent => k_is)
    (case c_law_bent => k_is)
    (case k_law_bent => k_is)
    (case a_law_refused => k_is)
    (case l_law_refused => k_is)
    (case c_law_refused => k_is)
    (case k_law_refused => k_is)
    (case a_law => k_is)
    (case l_law => k_is)
    (case c_law => k_is)
    (case k_law => k_is)
    (case hh_law => kernel_rfl)
    (case np_law => kernel_rfl)
    (case aC_BadTree => k_is)
    (case xL_BadTree => k_is)
    (case sa_BadTree => k_is)
    (case ga_BadTree => k_is)
    (case gg_BadTree => k_is)
    (case nf_BadTree => k_is)
    (case ai_BadTree => k_is)
    (case ti_BadTree => k_is)
    (case li_BadTree => k_is)
    (case ci_BadTree => k_is)
    (case ki_BadTree => k_is)
    (case kC_BadTree => k_is)
    (case eC_BadTree => k_is)
    (case tC_BadTree => k_is)
    (case hC_BadTree => k_is)
    (case iC_BadTree => k_is)
    (case sC_BadTree => k_is)
    (case zc_DIGITS => k_is)
    (case zc_LETTERS => k_is)
    (case zc_LONGEST_WORD => k_is)
    (case zn_abs => k_is)
    (case zn_all => k_is)
    (case zn_int => k_is)
    (case zn_isinstance => k_is)
    (case zn_len => k_is)
    (case zn_list => k_is)
    (case zn_max => k_is)
    (case zn_range => k_is)
    (case zn_repr => k_is)
    (case zn_str => k_is)
    (case zn_tuple => k_is)
    (case fin => (obtain ⟨e, hb, hc, np, hh⟩ := hT; subst e; exact ⟨T.fd_law, _, np, hh, hb, fun base _ _ TB => My.ok_law T hc TB⟩))
#print axioms PySem.Challenge.cw_eitherbarter_k19_whole_leaves_and_forks_holds
