import PyProof.Rows.All
import Wide.All
import OpenK.AllK
import Wide.FinOn
import HandS.ForMost
import HandS.Gcd
import HandS.Wide
import HandS.IsInst
import HandS.Style
import HandS.Zip
import HandS.Evl
import HandS.ExcInit
import HandS.ExcOwn
import HandS.ExcField
import HandS.WordsExc
import HandS.StrMore
import PyProof.ReprRoads
import PyProof.ReprLen
import PySem.Challenge.RW_eitherbarter_k06_lexemes_of_texts
set_option Elab.async false
set_option linter.all false
set_option maxRecDepth 100000
set_option maxHeartbeats 4000000
namespace My
open PySem PySem.Spec PyProof.Rows L2
/-! ### rules of my own -/
/-- // by any divisor but 0, below 2 ^ 9000 in size -/
def CDivX (_ j : Int) : Prop := j ≠ 0 ∧ j.natAbs.log2 < 9000
section
variable {X : Cx}
theorem op_fdivX : OpR X (binaryOp .FloorDiv) (rI CDivX fun i j => .int (i.fdiv j)) := opI fun _ _ _ _ _ _ _ hc q =>
  floordiv_int hc.1 q (.inl (PyProof.noPylong_of_log2 hc.2))
def rReprB : List V → Hp → VK → Prop := fun xs H Q => ∃ b : Bool, xs = [.bl b] ∧ Q (.str (if b then "True" else "False")) H
theorem call_repr_bl : CallR X (.builtin "repr") rReprB := by
  intro pins s σ H xs us Q I r h
  obtain ⟨b, rfl, q⟩ := h
  obtain ⟨u, rfl, r1⟩ := vals1 r
  cases (show u = Value.bool b from r1)
  exact PySem.P.repr_of_bool ⟨.str _, H, I.tok _, ⟨_, rfl⟩, q⟩
end
theorem iteD {p : Prop} [Decidable p] {A B : Prop} (h1 : p → A) (h2 : ¬ p → B) : if decide p = true then A else B := by
  by_cases h : p
  · rw [decide_eq_true h]; exact iteT (h1 h)
  · rw [decide_eq_false h]; exact iteF (h2 h)
theorem iteN {p : Prop} [Decidable p] {A B : Prop} (h1 : ¬ p → A) (h2 : p → B) : if (!decide p) = true then A else B := by
  by_cases h : p
  · rw [decide_eq_true h]; exact iteF (h2 h)
  · rw [decide_eq_false h]; exact iteT (h1 h)
/-- a while whose test leaves the heap as it is -/
theorem while_b {c : TT} {tb : TS} {D : Ends} {σ : L2.St} {H : Hp} (Pv : L2.St → Hp → Prop) (μ : L2.St → Hp → Nat) (h0 : Pv σ H)
    (hs : ∀ σ H, Pv σ H → ∃ b, (∀ Q : Bool → Hp → Prop, Q b H → c σ H Q) ∧
      (if b = true then tb { D with nx := fun σ' H' => Pv σ' H' ∧ μ σ' H' < μ σ H, ct := fun σ' H' => Pv σ' H' ∧ μ σ' H' < μ σ H, bk := D.nx } σ H else D.nx σ H)) : tWhile c tb D σ H := by
  refine ⟨fun m σ H => m = μ σ H ∧ Pv σ H, ⟨_, rfl, h0⟩, ?_⟩
  rintro m σ H ⟨rfl, p⟩
  obtain ⟨b, hc, ht⟩ := hs σ H p
  refine hc _ ?_
  cases b with
  | true =>
    rw [if_pos rfl] at ht
    exact ⟨_, fun σ' H' ⟨p', l⟩ => ⟨_, l, rfl, p'⟩, ht⟩
  | false =>
    rw [if_neg Bool.false_ne_true] at ht
    exact ht
theorem same_new {H : Hp} {p : Addr} (h : H p = none) (o : HO) : Same H (upd H p o) := fun b u q => by rw [upd_ne (ne_of_none q h)]; exact q
theorem small {n : Nat} (h : n ≤ 1000) : n ≤ sizeLine := Nat.le_of_lt (small1000 h)
/-! ### the source of draws: a dict at s, the cells' list at c -/
def srcD (c : Addr) (l m t : Int) : List (Key × V) := [(.inr "cells", .ref c), (.inr "left", .int l), (.inr "mixed", .int m), (.inr "turn", .int t)]
structure SrcL (H : Hp) (s c : Addr) (l m t : Int) (ns : List Int) : Prop where
  hs : H s = some (.dK (srcD c l m t))
  hc : H c = some (.lst (ns.map V.int))
  l0 : 0 ≤ l
  m0 : 0 ≤ m
  m1 : m < 4294967296
  t0 : 0 ≤ t
  n0 : ∀ n ∈ ns, 0 ≤ n
  len : ns.length ≤ 63
def Src (H : Hp) (s c : Addr) : Prop := ∃ l m t ns, SrcL H s c l m t ns
theorem k_cl : ¬ ((Sum.inr "cells" : Key) = (Sum.inr "left" : Key)) := by decide +kernel
theorem k_cm : ¬ ((Sum.inr "cells" : Key) = (Sum.inr "mixed" : Key)) := by decide +kernel
theorem k_ct : ¬ ((Sum.inr "cells" : Key) = (Sum.inr "turn" : Key)) := by decide +kernel
theorem k_lm : ¬ ((Sum.inr "left" : Key) = (Sum.inr "mixed" : Key)) := by decide +kernel
theorem k_lt : ¬ ((Sum.inr "left" : Key) = (Sum.inr "turn" : Key)) := by decide +kernel
theorem k_mt : ¬ ((Sum.inr "mixed" : Key) = (Sum.inr "turn" : Key)) := by decide +kernel
theorem get_cells (c : Addr) (l m t : Int) : valV (srcD c l m t) (Sum.inr "cells") = some (.ref c) := valV_pos rfl
theorem get_left (c : Addr) (l m t : Int) : valV (srcD c l m t) (Sum.inr "left") = some (.int l) := by
  unfold srcD; rw [valV_neg k_cl, valV_pos rfl]
theorem get_mixed (c : Addr) (l m t : Int) : valV (srcD c l m t) (Sum.inr "mixed") = some (.int m) := by
  unfold srcD; rw [valV_neg k_cm, valV_neg k_lm, valV_pos rfl]
theorem get_turn (c : Addr) (l m t : Int) : valV (srcD c l m t) (Sum.inr "turn") = some (.int t) := by
  unfold srcD; rw [valV_neg k_ct, valV_neg k_lt, valV_neg k_mt, valV_pos rfl]
theorem put_there {kvs : List (Key × V)} {k : Key} {u : V} (v : V) (h : valV kvs k = some u) : putK kvs k v = kvs.map (fun kv => if kv.1 = k then (kv.1, v) else kv) := by
  unfold putK
  rw [valV_any, h]
  exact if_pos rfl
theorem put_left (c : Addr) (l m t v : Int) : putK (srcD c l m t) (Sum.inr "left") (.int v) = srcD c v m t := by
  rw [put_there _ (get_left c l m t)]
  show [if (Sum.inr "cells" : Key) = (Sum.inr "left" : Key) then ((Sum.inr "cells" : Key), V.int v) else (Sum.inr "cells", V.ref c), if (Sum.inr "left" : Key) = (Sum.inr "left" : Key) then ((Sum.inr "left" : Key), V.int v) else (Sum.inr "left", V.int l),
    if (Sum.inr "mixed" : Key) = (Sum.inr "left" : Key) then ((Sum.inr "mixed" : Key), V.int v) else (Sum.inr "mixed", V.int m), if (Sum.inr "turn" : Key) = (Sum.inr "left" : Key) then ((Sum.inr "turn" : Key), V.int v) else (Sum.inr "turn", V.int t)] = _
  rw [if_neg k_cl, if_pos rfl, if_neg (Ne.symm k_lm), if_neg (Ne.symm k_lt)]
  rfl
theorem put_mixed (c : Addr) (l m t v : Int) : putK (srcD c l m t) (Sum.inr "mixed") (.int v) = srcD c l v t := by
  rw [put_there _ (get_mixed c l m t)]
  show [if (Sum.inr "cells" : Key) = (Sum.inr "mixed" : Key) then ((Sum.inr "cells" : Key), V.int v) else (Sum.inr "cells", V.ref c), if (Sum.inr "left" : Key) = (Sum.inr "mixed" : Key) then ((Sum.inr "left" : Key), V.int v) else (Sum.inr "left", V.int l),
    if (Sum.inr "mixed" : Key) = (Sum.inr "mixed" : Key) then ((Sum.inr "mixed" : Key), V.int v) else (Sum.inr "mixed", V.int m), if (Sum.inr "turn" : Key) = (Sum.inr "mixed" : Key) then ((Sum.inr "turn" : Key), V.int v) else (Sum.inr "turn", V.int t)] = _
  rw [if_neg k_cm, if_neg k_lm, if_pos rfl, if_neg (Ne.symm k_mt)]
  rfl
theorem put_turn (c : Addr) (l m t v : Int) : putK (srcD c l m t) (Sum.inr "turn") (.int v) = srcD c l m v := by
  rw [put_there _ (get_turn c l m t)]
  show [if (Sum.inr "cells" : Key) = (Sum.inr "turn" : Key) then ((Sum.inr "cells" : Key), V.int v) else (Sum.inr "cells", V.ref c), if (Sum.inr "left" : Key) = (Sum.inr "turn" : Key) then ((Sum.inr "left" : Key), V.int v) else (Sum.inr "left", V.int l),
    if (Sum.inr "mixed" : Key) = (Sum.inr "turn" : Key) then ((Sum.inr "mixed" : Key), V.int v) else (Sum.inr "mixed", V.int m), if (Sum.inr "turn" : Key) = (Sum.inr "turn" : Key) then ((Sum.inr "turn" : Key), V.int v) else (Sum.inr "turn", V.int t)] = _
  rw [if_neg k_ct, if_neg k_lt, if_neg k_mt, if_pos rfl]
  rfl
theorem srcD_made (c : Addr) (m : Int) : mergeK [] (srcD c 1 m 0) = srcD c 1 m 0 := by
  have p1 : putK ([] : List (Key × V)) (Sum.inr "cells" : Key) (V.ref c) = [((Sum.inr "cells" : Key), V.ref c)] := by rw [putK_new _ valV_nil]; rfl
  have p2 : putK ([((Sum.inr "cells" : Key), V.ref c)] : List (Key × V)) (Sum.inr "left" : Key) (V.int 1) = [((Sum.inr "cells" : Key), V.ref c), ((Sum.inr "left" : Key), V.int 1)] := by
    rw [putK_new _ (by rw [valV_neg k_cl, valV_nil])]; rfl
  have p3 : putK ([((Sum.inr "cells" : Key), V.ref c), ((Sum.inr "left" : Key), V.int 1)] : List (Key × V)) (Sum.inr "mixed" : Key) (V.int m) = [((Sum.inr "cells" : Key), V.ref c), ((Sum.inr "left" : Key), V.int 1), ((Sum.inr "mixed" : Key), V.int m)] := by
    rw [putK_new _ (by rw [valV_neg k_cm, valV_neg k_lm, valV_nil])]; rfl
  have p4 : putK ([((Sum.inr "cells" : Key), V.ref c), ((Sum.inr "left" : Key), V.int 1), ((Sum.inr "mixed" : Key), V.int m)] : List (Key × V)) (Sum.inr "turn" : Key) (V.int 0) = srcD c 1 m 0 := by
    rw [putK_new _ (by rw [valV_neg k_ct, valV_neg k_lt, valV_neg k_mt, valV_nil])]; rfl
  show putK (putK (putK (putK [] (Sum.inr "cells" : Key) (V.ref c)) (Sum.inr "left" : Key) (V.int 1)) (Sum.inr "mixed" : Key) (V.int m)) (Sum.inr "turn" : Key) (V.int 0) = srcD c 1 m 0
  rw [p1, p2, p3, p4]
theorem SrcL.ne {H : Hp} {s c : Addr} {l m t : Int} {ns : List Int} (h : SrcL H s c l m t ns) : s ≠ c := ne_of h.hs h.hc (by intro z; cases z)
/-- all but the source stands as it stood; the source is one -/
structure Go (s c : Addr) (H H' : Hp) : Prop where
  keep : ∀ a o, a ≠ s → a ≠ c → H a = some o → H' a = some o
  src : Src H' s c
theorem Src.ne_tup {H : Hp} {s c a : Addr} {xs : List V} (h : Src H s c) (e : H a = some (.tup xs)) : a ≠ s ∧ a ≠ c := by
  obtain ⟨l, m, t, ns, h⟩ := h
  exact ⟨ne_of e h.hs (by intro z; cases z), ne_of e h.hc (by intro z; cases z)⟩
theorem Src.ne_none {H : Hp} {s c a : Addr} (h : Src H s c) (e : H a = none) : a ≠ s ∧ a ≠ c := by
  obtain ⟨l, m, t, ns, h⟩ := h
  refine ⟨fun q => ?_, fun q => ?_⟩
  · rw [q, h.hs] at e
    cases e
  · rw [q, h.hc] at e
    cases e
theorem Src.same {H H' : Hp} {s c : Addr} (h : Src H s c) (e : Same H H') : Src H' s c := by
  obtain ⟨l, m, t, ns, h⟩ := h
  exact ⟨l, m, t, ns, e _ _ h.hs, e _ _ h.hc, h.l0, h.m0, h.m1, h.t0, h.n0, h.len⟩
theorem Go.refl {H : Hp} {s c : Addr} (h : Src H s c) : Go s c H H := ⟨fun _ _ _ _ e => e, h⟩
theorem Go.of {H H' : Hp} {s c : Addr} (h : Src H s c) (e : Same H H') : Go s c H H' := ⟨fun a o _ _ q => e a o q, h.same e⟩
theorem Go.trans {H H1 H2 : Hp} {s c : Addr} (a : Go s c H H1) (b : Go s c H1 H2) : Go s c H H2 := ⟨fun x o h1 h2 e => b.keep x o h1 h2 (a.keep x o h1 h2 e), b.src⟩
theorem Go.then {H H1 H2 : Hp} {s c : Addr} (a : Go s c H H1) (b : Same H1 H2) : Go s c H H2 := a.trans (.of a.src b)
theorem Go.tup {H H' : Hp} {s c a : Addr} {xs : List V} (g : Go s c H H') (h : Src H s c) (e : H a = some (.tup xs)) : H' a = some (.tup xs) :=
  g.keep _ _ (h.ne_tup e).1 (h.ne_tup e).2 e
theorem Go.lst {H H' : Hp} {s c a : Addr} {xs : List V} (g : Go s c H H') (h : Src H s c) (e : H a = some (.lst xs)) (n : a ≠ c) : H' a = some (.lst xs) := by
  obtain ⟨l, m, t, ns, h⟩ := h
  exact g.keep _ _ (ne_of e h.hs (by intro z; cases z)) n e
theorem Go.free {H H' : Hp} {s c a : Addr} (g : Go s c H H') (e : H' a = none) : H a = none := by
  have n := g.src.ne_none e
  cases q : H a with
  | none => rfl
  | some o =>
    rw [g.keep _ _ n.1 n.2 q] at e
    cases e
/-! ### what the draws promise -/
def spPick : Sp := fun vs H Q _ => ∃ (s c : Addr) (n : Int), vs = [.ref s, .int n] ∧ Src H s c ∧ 1 ≤ n ∧ n < 1000000 ∧
  ∀ (k : Int) (H' : Hp), 0 ≤ k → k < n → Go s c H H' → Q (.int k) H'
def spOf (K : PySem.W.Frag) : Sp := fun vs H Q _ => ∃ (s c a : Addr) (xs : List V), vs = [.ref s, .ref a] ∧ Src H s c ∧ H a = some (.lst xs) ∧ a ≠ c ∧ 1 ≤ xs.length ∧ xs.length < 1000000 ∧
  ∀ (i : Nat) (x : V) (H' : Hp), xs[i]? = some x → Go s c H H' → Q x H'
def spSource (K : PySem.W.Frag) : Sp := fun vs H Q _ => ∃ (a : Addr) (ns : List Int), vs = [.ref a] ∧ SqL K H a (ns.map V.int) ∧ ns.length ≤ 63 ∧
  ∀ (s c : Addr) (H' : Hp), Same H H' → H s = none → H c = none → Src H' s c → Q (.ref s) H'
def spLaw (K : PySem.W.Frag) : Sp := fun vs H Q _ => ∃ (a : Addr) (ns : List Int), vs = [.ref a] ∧ SqL K H a (ns.map V.int) ∧ ns.length ≤ 63 ∧ ∀ H', Q (.bl true) H'
end My
namespace My
open PySem PySem.Spec PyProof.Rows L2
section
variable {X : Cx}
theorem pe_gstr {x : Str} {z : Str} {pos : Pos} (hg : Gl X x) (hm : ∃ t, X.mg x = some (.str z t)) (hd : (x == ("__debug__" : Str)) = false := by decide) : PE X (.Name x pos) (tC (.str z)) := by
  obtain ⟨t, e⟩ := hm
  exact pe_glob hg e ⟨t, rfl⟩ hd
theorem pe_gint {x : Str} {i : Int} {pos : Pos} (hg : Gl X x) (hm : ∃ t, X.mg x = some (.int i t)) (hd : (x == ("__debug__" : Str)) = false := by decide) : PE X (.Name x pos) (tC (.int i)) := by
  obtain ⟨t, e⟩ := hm
  exact pe_glob hg e ⟨t, rfl⟩ hd
end
/-! ### a class of errors with one field, kept by its own __init__ -/
def classBody : Stmt → List Stmt
  | .ClassDef _ _ _ b .. => b
  | _ => []
def initOf (st : Stmt) : Stmt := (classBody st).getD 0 (.Pass ⟨0, 0, 0, 0⟩)
structure OwnE (K : PySem.W.Frag) (mg : Str → Option Value) (x q f : Str) (st : Stmt) where
  C : Addr
  fI : Addr
  fd : FuncData
  oex : OexC K C
  xf : XfC K C
  iC : PySem.W.findIn K (.ref C) "__init__" = some (some (.ref fI))
  tI : PySem.W.typeIn K (.ref fI) = some (.type "function")
  noF : PySem.W.findIn K (.ref C) f = some none
  F : Fun K "__init__" q (initOf st) fI fd
  b : Binds K fd ["self", f] []
  m : mg x = some (.ref C)
  te : PySem.W.exmOne K (.ref C) (.ref C) = some true
/-- an error of the class at C whose field f is v -/
def spInit (C : Addr) (f : Str) : Sp := fun vs H Q _ => ∃ (a : Addr) (v : V), vs = [.ref a, v] ∧ H a = some (exo a C none) ∧
  ∀ dx, H dx = none → dx ≠ a → Q .non (upd (upd H dx (exd dx [(f, v)])) a (exo a C (some dx)))
end My
namespace My
open PySem PySem.Spec PyProof.Rows L2
/-- an error of the class at S is one that «except S» takes -/
theorem exm_own {K : PySem.W.Frag} {S : Addr} (h1 : PySem.W.subIn K (.ref S) (.type "BaseException") = some true) (h2 : PySem.W.isClsIn K S = true) (h3 : PySem.W.typeIn K (.ref S) = some (.type "type")) (h4 : PySem.W.subIn K (.ref S) (.ref S) = some true) : PySem.W.exmOne K (.ref S) (.ref S) = some true := by
  have h2' : (PySem.W.clsIn K S).isSome = true := h2
  unfold PySem.W.exmOne
  unfold PySem.W.kitCls
  simp [h1, h2', h3, h4]
end My
namespace My
open PySem PySem.Spec PyProof.Rows L2
def top (i : Nat) : Stmt := PySem.Challenge.pw_eitherbarter_k06_lexemes_of_texts.main.body.getD i (.Pass ⟨0, 0, 0, 0⟩)
abbrev s_lexemes : Stmt := top 9
abbrev s_scanned : Stmt := top 10
abbrev s_lexeme_at : Stmt := top 11
abbrev s_run_end : Stmt := top 12
abbrev s_law_source : Stmt := top 14
abbrev s_law_pick : Stmt := top 15
abbrev s_law_of : Stmt := top 16
abbrev s_law_spaced : Stmt := top 17
abbrev s_law_run : Stmt := top 18
abbrev s_law_is_word : Stmt := top 19
abbrev s_law_lexeme : Stmt := top 20
abbrev s_law_lexemes_due : Stmt := top 21
abbrev s_law_any_word : Stmt := top 22
abbrev s_law_told : Stmt := top 23
abbrev s_law_hand_right : Stmt := top 24
abbrev s_law_long_right : Stmt := top 25
abbrev s_law : Stmt := top 26
theorem sc_lexemes : FnScope ["text", "found", "stop"] ["text"] (defScope s_lexemes) := ⟨rfl, rfl, rfl, by decide +kernel, rfl, by decide +kernel, by decide +kernel⟩
theorem sc_scanned : FnScope ["text", "found", "place", "lexeme"] ["text"] (defScope s_scanned) := ⟨rfl, rfl, rfl, by decide +kernel, rfl, by decide +kernel, by decide +kernel⟩
theorem sc_lexeme_at : FnScope ["text", "place", "sign", "end"] ["text", "place"] (defScope s_lexeme_at) := ⟨rfl, rfl, rfl, by decide +kernel, rfl, by decide +kernel, by decide +kernel⟩
theorem sc_run_end : FnScope ["text", "place", "signs"] ["text", "place", "signs"] (defScope s_run_end) := ⟨rfl, rfl, rfl, by decide +kernel, rfl, by decide +kernel, by decide +kernel⟩
theorem sc_law_source : FnScope ["_law_script", "_law_mixed", "_law_cell"] ["_law_script"] (defScope s_law_source) := ⟨rfl, rfl, rfl, by decide +kernel, rfl, by decide +kernel, by decide +kernel⟩
theorem sc_law_pick : FnScope ["_law_source_here", "_law_many", "_law_left", "_law_mixed"] ["_law_source_here", "_law_many"] (defScope s_law_pick) := ⟨rfl, rfl, rfl, by decide +kernel, rfl, by decide +kernel, by decide +kernel⟩
theorem sc_law_of : FnScope ["_law_source_here", "_law_some"] ["_law_source_here", "_law_some"] (defScope s_law_of) := ⟨rfl, rfl, rfl, by decide +kernel, rfl, by decide +kernel, by decide +kernel⟩
theorem sc_law_spaced : FnScope ["_law_source_here", "_law_signs", "_law_text", "_law_last", "_law_one", "_law_gaps"] ["_law_source_here", "_law_signs"] (defScope s_law_spaced) := ⟨rfl, rfl, rfl, by decide +kernel, rfl, by decide +kernel, by decide +kernel⟩
theorem sc_law_run : FnScope ["_law_text", "_law_place", "_law_signs"] ["_law_text", "_law_place", "_law_signs"] (defScope s_law_run) := ⟨rfl, rfl, rfl, by decide +kernel, rfl, by decide +kernel, by decide +kernel⟩
theorem sc_law_is_word : FnScope ["_law_value", "_law_sign"] ["_law_value"] (defScope s_law_is_word) := ⟨rfl, rfl, rfl, by decide +kernel, rfl, by decide +kernel, by decide +kernel⟩
theorem sc_law_lexeme : FnScope ["_law_text", "_law_place", "_law_figures", "_law_end", "_law_word"] ["_law_text", "_law_place"] (defScope s_law_lexeme) := ⟨rfl, rfl, rfl, by decide +kernel, rfl, by decide +kernel, by decide +kernel⟩
theorem sc_law_lexemes_due : FnScope ["_law_text", "_law_found", "_law_lexeme_here", "_law_sort"] ["_law_text"] (defScope s_law_lexemes_due) := ⟨rfl, rfl, rfl, by decide +kernel, rfl, by decide +kernel, by decide +kernel⟩
theorem sc_law_any_word : FnScope ["_law_source_here", "_law_letters", "_law_word", "_law_lap"] ["_law_source_here"] (defScope s_law_any_word) := ⟨rfl, rfl, rfl, by decide +kernel, rfl, by decide +kernel, by decide +kernel⟩
theorem sc_law_told : FnScope ["_law_text", "error"] ["_law_text"] (defScope s_law_told) := ⟨rfl, rfl, rfl, by decide +kernel, rfl, by decide +kernel, by decide +kernel⟩
theorem sc_law_hand_right : FnScope ["_law_due", "_law_some", "_law_sign", "_law_word", "_law_text", "_law_place"] [] (defScope s_law_hand_right) := ⟨rfl, rfl, rfl, by decide +kernel, rfl, by decide +kernel, by decide +kernel⟩
theorem sc_law_long_right : FnScope ["_law_text", "_law_far", "_law_due", "_law_k", "_law_at", "_law_told_here"] [] (defScope s_law_long_right) := ⟨rfl, rfl, rfl, by decide +kernel, rfl, by decide +kernel, by decide +kernel⟩
theorem sc_law : FnScope ["_law_script", "_law_source_here", "_law_some", "_law_odd", "_law_turn", "_law_found", "_law_text", "_law_told_here", "_law_lap", "_law_at", "_law_here", "_law_again", "_law_one"] ["_law_script"] (defScope s_law) := ⟨rfl, rfl, rfl, by decide +kernel, rfl, by decide +kernel, by decide +kernel⟩
abbrev s_BadText : Stmt := top 2
theorem sc_BadText : FnScope ["self", "place"] ["self", "place"] (defScope (initOf s_BadText)) := ⟨rfl, rfl, rfl, by decide +kernel, rfl, by decide +kernel, by decide +kernel⟩
structure Tx (K : PySem.W.Frag) (mg : Str → Option Value) where
  a_lexemes : Addr
  fd_lexemes : FuncData
  F_lexemes : Fun K "lexemes" "lexemes" s_lexemes a_lexemes fd_lexemes
  b_lexemes : Binds K fd_lexemes ["text"] []
  m_lexemes : mg "lexemes" = some (.ref a_lexemes)
  a_scanned : Addr
  fd_scanned : FuncData
  F_scanned : Fun K "scanned" "scanned" s_scanned a_scanned fd_scanned
  b_scanned : Binds K fd_scanned ["text"] []
  m_scanned : mg "scanned" = some (.ref a_scanned)
  a_lexeme_at : Addr
  fd_lexeme_at : FuncData
  F_lexeme_at : Fun K "lexeme_at" "lexeme_at" s_lexeme_at a_lexeme_at fd_lexeme_at
  b_lexeme_at : Binds K fd_lexeme_at ["text", "place"] []
  m_lexeme_at : mg "lexeme_at" = some (.ref a_lexeme_at)
  a_run_end : Addr
  fd_run_end : FuncData
  F_run_end : Fun K "run_end" "run_end" s_run_end a_run_end fd_run_end
  b_run_end : Binds K fd_run_end ["text", "place", "signs"] []
  m_run_end : mg "run_end" = some (.ref a_run_end)
  a_law_source : Addr
  fd_law_source : FuncData
  F_law_source : Fun K "_law_source" "_law_source" s_law_source a_law_source fd_law_source
  b_law_source : Binds K fd_law_source ["_law_script"] []
  m_law_source : mg "_law_source" = some (.ref a_law_source)
  a_law_pick : Addr
  fd_law_pick : FuncData
  F_law_pick : Fun K "_law_pick" "_law_pick" s_law_pick a_law_pick fd_law_pick
  b_law_pick : Binds K fd_law_pick ["_law_source_here", "_law_many"] []
  m_law_pick : mg "_law_pick" = some (.ref a_law_pick)
  a_law_of : Addr
  fd_law_of : FuncData
  F_law_of : Fun K "_law_of" "_law_of" s_law_of a_law_of fd_law_of
  b_law_of : Binds K fd_law_of ["_law_source_here", "_law_some"] []
  m_law_of : mg "_law_of" = some (.ref a_law_of)
  a_law_spaced : Addr
  fd_law_spaced : FuncData
  F_law_spaced : Fun K "_law_spaced" "_law_spaced" s_law_spaced a_law_spaced fd_law_spaced
  b_law_spaced : Binds K fd_law_spaced ["_law_source_here", "_law_signs"] []
  m_law_spaced : mg "_law_spaced" = some (.ref a_law_spaced)
  a_law_run : Addr
  fd_law_run : FuncData
  F_law_run : Fun K "_law_run" "_law_run" s_law_run a_law_run fd_law_run
  b_law_run : Binds K fd_law_run ["_law_text", "_law_place", "_law_signs"] []
  m_law_run : mg "_law_run" = some (.ref a_law_run)
  a_law_is_word : Addr
  fd_law_is_word : FuncData
  F_law_is_word : Fun K "_law_is_word" "_law_is_word" s_law_is_word a_law_is_word fd_law_is_word
  b_law_is_word : Binds K fd_law_is_word ["_law_value"] []
  m_law_is_word : mg "_law_is_word" = some (.ref a_law_is_word)
  a_law_lexeme : Addr
  fd_law_lexeme : FuncData
  F_law_lexeme : Fun K "_law_lexeme" "_law_lexeme" s_law_lexeme a_law_lexeme fd_law_lexeme
  b_law_lexeme : Binds K fd_law_lexeme ["_law_text", "_law_place"] []
  m_law_lexeme : mg "_law_lexeme" = some (.ref a_law_lexeme)
  a_law_lexemes_due : Addr
  fd_law_lexemes_due : FuncData
  F_law_lexemes_due : Fun K "_law_lexemes_due" "_law_lexemes_due" s_law_lexemes_due a_law_lexemes_due fd_law_lexemes_due
  b_law_lexemes_due : Binds K fd_law_lexemes_due ["_law_text"] []
  m_law_lexemes_due : mg "_law_lexemes_due" = some (.ref a_law_lexemes_due)
  a_law_any_word : Addr
  fd_law_any_word : FuncData
  F_law_any_word : Fun K "_law_any_word" "_law_any_word" s_law_any_word a_law_any_word fd_law_any_word
  b_law_any_word : Binds K fd_law_any_word ["_law_source_here"] []
  m_law_any_word : mg "_law_any_word" = some (.ref a_law_any_word)
  a_law_told : Addr
  fd_law_told : FuncData
  F_law_told : Fun K "_law_told" "_law_told" s_law_told a_law_told fd_law_told
  b_law_told : Binds K fd_law_told ["_law_text"] []
  m_law_told : mg "_law_told" = some (.ref a_law_told)
  a_law_hand_right : Addr
  fd_law_hand_right : FuncData
  F_law_hand_right : Fun K "_law_hand_right" "_law_hand_right" s_law_hand_right a_law_hand_right fd_law_hand_right
  b_law_hand_right : Binds K fd_law_hand_right [] []
  m_law_hand_right : mg "_law_hand_right" = some (.ref a_law_hand_right)
  a_law_long_right : Addr
  fd_law_long_right : FuncData
  F_law_long_right : Fun K "_law_long_right" "_law_long_right" s_law_long_right a_law_long_right fd_law_long_right
  b_law_long_right : Binds K fd_law_long_right [] []
  m_law_long_right : mg "_law_long_right" = some (.ref a_law_long_right)
  a_law : Addr
  fd_law : FuncData
  F_law : Fun K "law" "law" s_law a_law fd_law
  b_law : Binds K fd_law ["_law_script"] []
  m_law : mg "law" = some (.ref a_law)
  e_BadText : OwnE K mg "BadText" "BadText.__init__" "place" s_BadText
  c_BLANKS : ∃ t, mg "BLANKS" = some (.str " \n" t)
  c_DIGITS : ∃ t, mg "DIGITS" = some (.str "0123456789" t)
  c_LETTERS : ∃ t, mg "LETTERS" = some (.str "abcdefghijklmnopqrstuvwxyz" t)
  c_LONGEST_WORD : ∃ t, mg "LONGEST_WORD" = some (.int 12 t)
  c_SIGNS : ∃ t, mg "SIGNS" = some (.str "(){},;" t)
  n_abs : mg "abs" = none
  n_int : mg "int" = none
  n_isinstance : mg "isinstance" = none
  n_len : mg "len" = none
  n_max : mg "max" = none
  n_range : mg "range" = none
  n_repr : mg "repr" = none
  n_str : mg "str" = none
end My
namespace My
open PySem PySem.Spec PyProof.Rows L2
/-! ### a def that is called where nothing is being shown: its body may show values -/
structure FnG (P : Program) (w : World) (K : PySem.W.Frag) (mg : Str → Option Value) (base : Heap) (k : Nat) (f : Addr) (fd : FuncData) (ps : List Str) (sp : Sp) : Prop where
  len : ∀ vs H Q E, sp vs H Q E → vs.length = ps.length
  run : ∀ (A : Around), A.guards = some [] → Room k A → ∀ (outer : List Env) (s : Shared) (H : Hp), Env0 P w K mg base A outer s H → ∀ (args : Args) (us : List Value), BindsTo s fd args (ps.zip us) →
    ∀ (vs : List V), Vals vs us → ∀ (Q : VK) (E : XK), sp vs H Q E → codeAny (model P w) A (.call (.ref f) args) (CR CX0 outer P w H s Q E) s
section
variable {P : Program} {w : World} {K : PySem.W.Frag} {mg : Str → Option Value} {base : Heap}
theorem FnG.of {x qual : Str} {st : Stmt} {f : Addr} {fd : FuncData} {N ps : List Str} {k : Nat} {sp : Sp} (F : Fun K x qual st f fd) (S : FnScope N ps (defScope st)) (len : ∀ vs H Q E, sp vs H Q E → vs.length = ps.length)
    (body : ∀ (cdv : Value) (A : Around) (outer : List Env) (s : Shared) (H : Hp) (vs : List V) (Q : VK) (E : XK), A.guards = some [] → Room k (A.deeper (envOfC qual (defScope st) s.heap.objs.size f cdv)) → sp vs H Q E →
      ∃ t, PSs (cxOf CX0 P w K mg base N qual (defScope st) f cdv A outer s H E).nox (defBody st) t ∧ t { nx := fun _ H' => Q .non H', rt := Q } (start N vs) H) :
    FnG P w K mg base (k + 1) f fd ps sp := by
  obtain ⟨oc, od, kV, doc, pm, an, cdv, ct, osl, rfl, lk, hcd⟩ := F.ex
  refine ⟨len, fun A hg hr outer s H e0 args us hb vs r Q E hsp => ?_⟩
  have KX : K.In s.heap := e0.mod.kin.keeps fun b o q => (e0.bs b o q).1
  have nl : s.heap.NoLimit := e0.mod.nolimit.keeps fun b o q => (e0.bs b o q).1
  have kinds : ∀ y ∈ ps.zip us, (defScope st).names.lookup y.1 = some .local ∨ ((defScope st).names.lookup y.1 = some .cell ∧ ((cellsFrom (s.heap.objs.size + 1) (defScope st).names []).lookup y.1).isSome = true) := by
    rintro ⟨n, v⟩ hy
    have q := S.par n (List.of_mem_zip hy).1
    exact q.imp id fun q => ⟨q, PySem.W.cellsFrom_some _ _ _ (.inl q)⟩
  refine codeAny_call_function hr.depth (KX _ _ lk) rfl S.co S.gen rfl (PySem.W.codeRec_of KX hcd) (hb _ _ _ _ (wpAny_newFunctionEnv_cells S.kind kinds fun env he s1 x => ?_))
  subst he
  refine ⟨nl.keeps x.toInCall.keep, codeAny_func ?_⟩
  obtain ⟨t, ht, hq⟩ := body cdv A outer s H vs Q E hg (hr.deeper _) hsp
  have I : Inv (cxOf CX0 P w K mg base N qual (defScope st) f cdv A outer s H E) [] (start N vs) H s1 := inv_start S hr.hd e0 (len _ _ _ _ hsp) r x
  refine wpAny_mono (ht.nox.run [] s1 (start N vs) H _ I hq) (fun fl s' hs => ?_) (fun e s' hs => hs)
  have last : ∀ {σ' : L2.St} {H' : Hp} {v : V} {u : Value}, Inv (cxOf CX0 P w K mg base N qual (defScope st) f cdv A outer s H E) [] σ' H' s' → RelV v u → Q v H' → CE outer P w H s Q u s' := fun J rv q => ⟨_, _, J.os, J.bare, J.base, J.hok, rv, q⟩
  rcases fl with _ | _ | _ | u
  all_goals first
    | (obtain ⟨v, σ', H', J, rv, q⟩ := hs; exact last J rv q)
    | (obtain ⟨σ', H', J, q⟩ := hs; exact last (v := V.non) (u := Value.none) J rfl q)
    | (obtain ⟨_, _, _, q⟩ := hs; exact False.elim q)
/-- the law's def, called by the one who asks for the proof -/
theorem law_runG {k : Nat} {fa a : Addr} {fd : FuncData} {x : Str} {sp : Sp} {mb : Str → Option Value} {s₁ : Shared} {vs : List Value} {ns : List Int}
    (KX : K.In s₁.heap) (hns : s₁.heap.Ns mainGlobals mg) (hb : s₁.heap.Ns builtinsNs mb) (hbb : ∀ x : Str, x ≠ "__name__" → mb x = bootBuiltins x) (nl : s₁.heap.NoLimit) (hg : s₁.gens = #[])
    (ha : s₁.heap.get? a = some { cls := .type "list", data := .seq vs.toArray }) (hi : IntsAre vs ns) (hl : ns.length ≤ sizeLine) (hr : Room k callerA)
    (F : ∀ base : Heap, K.In base → base.Ns mainGlobals mg → FnG P w K mg base k fa fd [x] sp) (bind : ∀ (s : Shared) (u : Value), BindsTo s fd ⟨[u], []⟩ [(x, u)])
    (hsp : ∀ H : Hp, Only H → SqL K H a (ns.map V.int) → sp [.ref a] H (fun v _ => v = .bl true) fun _ _ _ => False) :
    codeAny (model P w) callerA (.call (.ref fa) ⟨[.ref a], []⟩) (fun r s' => r = .ok (.ret (.bool true)) ∧ OldK s₁.heap s'.heap ∧ s'.os = s₁.os ∧ AllBare s'.gens) s₁ := by
  have rv := vals_ints hi
  have lv := hi.length
  have core : ∀ H : Hp, Only H ∧ SqL K H a (ns.map V.int) ∧ HOk P w H s₁.heap ∧ (∀ b, H b ≠ none → b = a) ∧ (H a ≠ none → K.lookup a = none) →
      codeAny (model P w) callerA (.call (.ref fa) ⟨[.ref a], []⟩) (fun r s' => r = .ok (.ret (.bool true)) ∧ OldK s₁.heap s'.heap ∧ s'.os = s₁.os ∧ AllBare s'.gens) s₁ := by
    rintro H ⟨hO, hS, hok, hA, hK⟩
    have no : ∀ {b : Addr}, b ≠ a → H b = none := fun {b} n => by
      cases q : H b with
      | none => rfl
      | some u => exact absurd (hA b fun z => by rw [q] at z; cases z) n
    have dicts : ∀ {b : Addr} {o : Obj} {es : Array DictEntry} {ep : Nat}, s₁.heap.get? b = some o → o.data = .dict es ep → (hidT s₁.heap H).get? b = some o := fun {b o es ep} e d => hidT_get e (no fun z => by
      rw [z, ha] at e
      have e' := Option.some.inj e
      rw [← e'] at d
      exact Data.noConfusion d)
    have nsK : ∀ {b : Addr} {m : Str → Option Value}, s₁.heap.Ns b m → (hidT s₁.heap H).Ns b m := fun z => by
      obtain ⟨o, es, ep, e, d, r⟩ := z
      exact ⟨o, es, ep, dicts e d, d, r⟩
    have inK : K.In (hidT s₁.heap H) := fun b o e => by
      refine hidT_get (KX b o e) ?_
      by_cases hb : b = a
      · cases q : H b with
        | none => rfl
        | some u =>
          have z := hK (by rw [← hb, q]; exact fun z => nomatch z)
          rw [hb, z] at e
          cases e
      · exact no hb
    obtain ⟨mc, c1, c2⟩ := nl
    have e0 : Env0 P w K mg (hidT s₁.heap H) callerA [] s₁ H :=
      { frames := rfl, mod := ⟨inK, nsK hns, ⟨mb, nsK hb, hbb⟩, ⟨mc, nsK c1, c2⟩⟩, bs := fun b o e => of_hidT e, bsz := Nat.le_of_eq (hidT_size _ _), funs := trivial, frf := fun b z => absurd z List.not_mem_nil, hok := hok, bare := .of_eq hg }
    refine codeAny_mono ((F _ inK (nsK hns)).run callerA rfl hr [] s₁ H e0 ⟨[.ref a], []⟩ [.ref a] (bind s₁ (.ref a)) [.ref a] (.cons rfl .nil) _ _ (hsp H hO hS)) fun r s' h => ?_
    rcases r with e | fl
    · exact False.elim h
    rcases fl with _ | _ | _ | u
    all_goals first
      | exact False.elim h
      | skip
    obtain ⟨v, H', os, bare, un, hok', r', q⟩ := h
    have q' : v = .bl true := q
    rw [q'] at r'
    have r2 : u = Value.bool true := r'
    refine ⟨by rw [r2], OldK.of_keep fun b o e => ?_, os, bare⟩
    rcases hO b with z | ⟨ob, xs, z⟩
    · exact un.keep b o e z List.not_mem_nil List.not_mem_nil
    · have z1 := (hok b _ z).1
      have z2 := (hok' b _ (un.frzs b ob _ z)).1
      rw [e] at z1
      cases z1
      exact z2
  cases hk : K.lookup a with
  | some o =>
    have e := KX a o hk
    rw [ha] at e
    cases e
    exact core (fun _ => none) ⟨fun _ => .inl rfl, .inr ⟨_, vs.toArray, _, hk, rfl, rfl, rfl, by rw [List.size_toArray, lv]; exact hl, by simpa using rv⟩, (fun b u z => nomatch z), fun b z => absurd rfl z, fun z => absurd rfl z⟩
  | none =>
    have at_ : ∀ {b : Addr} {u : HO}, (if b = a then some (HO.frz { cls := .type "list", data := .seq vs.toArray } (.lst (ns.map V.int))) else none) = some u → b = a ∧ u = HO.frz { cls := .type "list", data := .seq vs.toArray } (.lst (ns.map V.int)) := fun {b u} z => by
      by_cases h : b = a
      · rw [if_pos h] at z; exact ⟨h, (Option.some.inj z).symm⟩
      · rw [if_neg h] at z; cases z
    refine core (fun b => if b = a then some (.frz { cls := .type "list", data := .seq vs.toArray } (.lst (ns.map V.int))) else none) ⟨fun b => ?_, .inl (.inr ⟨_, if_pos rfl⟩), fun b u z => ?_, fun b z => ?_, fun _ => hk⟩
    · by_cases h : b = a
      · exact .inr ⟨_, _, if_pos h⟩
      · exact .inl (if_neg h)
    · obtain ⟨rfl, rfl⟩ := at_ z
      exact ⟨ha, by rw [List.length_map]; exact hl, vs, _, rv, ha⟩
    · by_cases h : b = a
      · exact h
      · exact absurd (if_neg h) z
end
/-- the walk's goal from the law's promise, the values being shown within -/
theorem walk_ofG {l : PySem.W.OpenLaw} {n k : Nat} {q : Program} {loose : List Str} {XP : (Str → Option Value) → Heap → Prop} {YP : World → Heap → Prop} {d : DefRec} {K : Params → PySem.W.Frag} {sp : World → Sp} {x : Str}
    (hn : l.most = some n) (hn2 : n ≤ sizeLine) (hdf : d.params.defaults = []) (hr : Room k callerA) (hY : ∀ (w : World) (h : Heap), YP w h → (K w.params).In h)
    (F : ∀ (w : World) (mg : Str → Option Value) (fa : Addr) (h : Heap), (K w.params).In h → h.Ns mainGlobals mg → mg d.name = some (.ref fa) → ∃ fd : FuncData, (∀ (s : Shared) (u : Value), BindsTo s fd ⟨[u], []⟩ [(x, u)]) ∧
      ∀ base : Heap, (K w.params).In base → base.Ns mainGlobals mg → FnG l.prog w (K w.params) mg base k fa fd [x] (sp w))
    (hsp : ∀ (w : World) (H : Hp) (a : Addr) (ns : List Int), ns.length ≤ n → Only H → SqL (K w.params) H a (ns.map V.int) → sp w [.ref a] H (fun v _ => v = .bl true) fun _ _ _ => False) :
    PySem.W.WalkO q loose XP YP l.row.toRowW d [] (fun f vs => PySem.call f vs) :=
  Att.attach_call hn hdf fun w s₀ s₁ mg mb fa o pm cd doc a vs ns G Y _ _ _ hmg ho hi hlen hg => by
    obtain ⟨fd, b, hF⟩ := F w mg fa _ (hY w _ Y) G.T.g hmg
    exact law_runG (hY w _ Y) G.T.g G.T.b G.T.builtins G.T.nolimit hg ho hi (Nat.le_trans hlen hn2) hr hF b fun H hO hS => hsp w H a ns hlen hO hS
end My
namespace My
open PySem PySem.Spec PyProof.Rows L2
/-! ### repr of data at any depth -/
mutual
theorem Dp.noDict {K : PySem.W.Frag} {H : Hp} : ∀ {v : V} {d : PyData}, Dp K H v d → d.hasDict = false
  | _, _, .non => rfl
  | _, _, .bl _ => rfl
  | _, _, .int _ => rfl
  | _, _, .str _ => rfl
  | _, _, .lst _ h => My.DpAll.noDict h
  | _, _, .tup _ h => My.DpAll.noDict h
theorem DpAll.noDict {K : PySem.W.Frag} {H : Hp} : ∀ {vs : List V} {ds : List PyData}, DpAll K H vs ds → PyData.hasDictAll ds = false
  | _, _, .nil => rfl
  | _, _, .cons h hs => by
    show (_ || _) = false
    rw [My.Dp.noDict h, My.DpAll.noDict hs]
    rfl
end
section
variable {X : Cx}
def rReprD (K : PySem.W.Frag) : List V → Hp → VK → Prop := fun xs H Q => ∃ (a : Addr) (d : PyData), xs = [.ref a] ∧ Dp K H (.ref a) d ∧ d.showable = true ∧ d.depth ≤ 60 ∧ d.shown.length ≤ sizeLine ∧ Q (.str d.shown) H
theorem call_repr_D (hg : X.A.guards = some []) (hu : X.A.units + 64 < cLine) : CallR X (.builtin "repr") (rReprD X.K) := by
  intro pins s σ H xs us Q I r h
  obtain ⟨a, d, rfl, dp, sh, dd, sz, q⟩ := h
  obtain ⟨u, rfl, r1⟩ := vals1 r
  cases (show u = Value.ref a from r1)
  obtain ⟨as, hr⟩ := Dp.reads I d _ _ dp rfl
  have nd := My.Dp.noDict dp
  exact repr_of_reads' hr sh (fun z => by rw [nd] at z; cases z) hg (by omega) (fun _ _ e => e) (fun h' u tk hk => ⟨.str d.shown, H, I.kept hk, ⟨u, rfl⟩, q⟩) sz
end
theorem seqT {K : PySem.W.Frag} {H H' : Hp} {a : Addr} {xs : List V} (e : Same H H') (h : SqT K H a xs) : SqT K H' a xs := by
  rcases h with h | h
  · refine .inl ?_
    rcases h with h | h
    · exact .inl (e _ _ h)
    · obtain ⟨o, h⟩ := h
      exact .inr ⟨o, e _ _ h⟩
  · exact .inr h
mutual
theorem Dp.same {K : PySem.W.Frag} {H H' : Hp} (e : Same H H') : ∀ {v : V} {d : PyData}, Dp K H v d → Dp K H' v d
  | _, _, .non => .non
  | _, _, .bl b => .bl b
  | _, _, .int i => .int i
  | _, _, .str x => .str x
  | _, _, .lst h hs => .lst (e.seq h) (My.DpAll.same e hs)
  | _, _, .tup h hs => .tup (seqT e h) (My.DpAll.same e hs)
theorem DpAll.same {K : PySem.W.Frag} {H H' : Hp} (e : Same H H') : ∀ {vs : List V} {ds : List PyData}, DpAll K H vs ds → DpAll K H' vs ds
  | _, _, .nil => .nil
  | _, _, .cons h hs => .cons (My.Dp.same e h) (My.DpAll.same e hs)
end
end My
namespace My
open PySem PySem.Spec PyProof.Rows L2
/-! ### lexemes, as functions of plain lists -/
abbrev SGN : Str := "(){},;"
abbrev LTR : Str := "abcdefghijklmnopqrstuvwxyz"
abbrev DIG : Str := "0123456789"
abbrev BLK : Str := " \n"
def inS (z : Str) (c : Nat) : Bool := decide (c ∈ z.cps.toList)
def txt (l : List Nat) : Str := ⟨l.toArray⟩
theorem txt_self (z : Str) : txt z.cps.toList = z := by
  obtain ⟨a⟩ := z
  show (⟨a.toList.toArray⟩ : Str) = ⟨a⟩
  rw [Array.toArray_toList]
theorem txt_len (l : List Nat) : (txt l).length = l.length := by
  show l.toArray.size = l.length
  rw [List.size_toArray]
theorem str_len (z : Str) : z.cps.toList.length = z.length := by
  show z.cps.toList.length = z.cps.size
  rw [Array.length_toList]
def runL (p : Nat → Bool) : List Nat → Nat
  | [] => 0
  | c :: r => if p c = true then runL p r + 1 else 0
theorem runL_le (p : Nat → Bool) : ∀ t : List Nat, runL p t ≤ t.length
  | [] => Nat.le_refl _
  | c :: r => by
    have ih := runL_le p r
    show (if p c = true then runL p r + 1 else 0) ≤ r.length + 1
    by_cases h : p c = true
    · rw [if_pos h]; omega
    · rw [if_neg h]; omega
theorem runL_yes {p : Nat → Bool} {c : Nat} {r : List Nat} (h : p c = true) : runL p (c :: r) = runL p r + 1 := if_pos h
theorem runL_no {p : Nat → Bool} {c : Nat} {r : List Nat} (h : p c = false) : runL p (c :: r) = 0 := if_neg (by rw [h]; exact Bool.false_ne_true)
theorem runL_nil {p : Nat → Bool} : runL p [] = 0 := rfl
def lexC (c : Nat) (r : List Nat) : Option (Str × Nat) :=
  if inS SGN c = true then some ("sign", 1)
  else if inS LTR c = true then (if runL (inS (LTR ++ DIG)) (c :: r) ≤ 12 then some ("word", runL (inS (LTR ++ DIG)) (c :: r)) else none)
  else if inS DIG c = true then some ("number", if c = 48 then 1 else runL (inS DIG) (c :: r)) else none
def lexL : List Nat → Option (Str × Nat)
  | [] => none
  | c :: r => lexC c r
theorem in_cat (c : Nat) : inS (LTR ++ DIG) c = (inS LTR c || inS DIG c) := by
  show decide (c ∈ (LTR.cps ++ DIG.cps).toList) = (decide (c ∈ LTR.cps.toList) || decide (c ∈ DIG.cps.toList))
  rw [Array.toList_append]
  by_cases h1 : c ∈ LTR.cps.toList <;> by_cases h2 : c ∈ DIG.cps.toList <;> simp [h1, h2]
theorem lexL_pos {c : Nat} {r : List Nat} {k : Str} {n : Nat} (h : lexL (c :: r) = some (k, n)) : 1 ≤ n ∧ n ≤ (c :: r).length := by
  have h : lexC c r = some (k, n) := h
  unfold lexC at h
  by_cases h1 : inS SGN c = true
  · rw [if_pos h1] at h
    cases h; exact ⟨Nat.le_refl _, Nat.succ_le_succ (Nat.zero_le _)⟩
  rw [if_neg h1] at h
  by_cases h2 : inS LTR c = true
  · rw [if_pos h2] at h
    by_cases h3 : runL (inS (LTR ++ DIG)) (c :: r) ≤ 12
    · rw [if_pos h3] at h
      cases h
      refine ⟨?_, runL_le _ _⟩
      rw [runL_yes (by rw [in_cat, h2]; rfl)]
      omega
    · rw [if_neg h3] at h
      cases h
  rw [if_neg h2] at h
  by_cases h3 : inS DIG c = true
  · rw [if_pos h3] at h
    cases h
    by_cases h4 : c = 48
    · rw [if_pos h4]; exact ⟨Nat.le_refl _, Nat.succ_le_succ (Nat.zero_le _)⟩
    · rw [if_neg h4]
      refine ⟨?_, runL_le _ _⟩
      rw [runL_yes h3]
      omega
  · rw [if_neg h3] at h
    cases h
abbrev Tk := Str × List Nat × Nat
def scanF : Nat → List Nat → Nat → List Tk × Option Nat
  | 0, _, _ => ([], none)
  | _ + 1, [], _ => ([], none)
  | f + 1, c :: r, p => if inS BLK c = true then scanF f r (p + 1) else match lexL (c :: r) with
    | none => ([], some p)
    | some (k, n) => ((k, (c :: r).take n, p) :: (scanF f ((c :: r).drop n) (p + n)).1, (scanF f ((c :: r).drop n) (p + n)).2)
theorem scanF_enough : ∀ (f g : Nat) (t : List Nat) (p : Nat), t.length < f → t.length < g → scanF f t p = scanF g t p
  | 0, _, _, _, h, _ => absurd h (Nat.not_lt_zero _)
  | _ + 1, 0, _, _, _, h => absurd h (Nat.not_lt_zero _)
  | f + 1, g + 1, [], p, _, _ => rfl
  | f + 1, g + 1, c :: r, p, h1, h2 => by
    have l : (c :: r).length = r.length + 1 := rfl
    unfold scanF
    by_cases hb : inS BLK c = true
    · rw [if_pos hb, if_pos hb]
      exact scanF_enough f g r (p + 1) (by omega) (by omega)
    · rw [if_neg hb, if_neg hb]
      cases e : lexL (c :: r) with
      | none => rfl
      | some q =>
        obtain ⟨k, n⟩ := q
        have ⟨n1, n2⟩ := lexL_pos e
        have ih := scanF_enough f g ((c :: r).drop n) (p + n) (by rw [List.length_drop]; omega) (by rw [List.length_drop]; omega)
        show ((k, (c :: r).take n, p) :: (scanF f ((c :: r).drop n) (p + n)).1, (scanF f ((c :: r).drop n) (p + n)).2) = ((k, (c :: r).take n, p) :: (scanF g ((c :: r).drop n) (p + n)).1, (scanF g ((c :: r).drop n) (p + n)).2)
        rw [ih]
def scan (t : List Nat) (p : Nat) : List Tk × Option Nat := scanF (t.length + 1) t p
theorem scan_nil (p : Nat) : scan [] p = ([], none) := rfl
theorem scan_blank {c : Nat} {r : List Nat} {p : Nat} (h : inS BLK c = true) : scan (c :: r) p = scan r (p + 1) := by
  show scanF (r.length + 1 + 1) (c :: r) p = _
  unfold scanF
  rw [if_pos h]
  rfl
theorem scan_none {c : Nat} {r : List Nat} {p : Nat} (h : inS BLK c = false) (e : lexL (c :: r) = none) : scan (c :: r) p = ([], some p) := by
  show scanF (r.length + 1 + 1) (c :: r) p = _
  unfold scanF
  rw [if_neg (by rw [h]; exact Bool.false_ne_true), e]
theorem scan_some {c : Nat} {r : List Nat} {p : Nat} {k : Str} {n : Nat} (h : inS BLK c = false) (e : lexL (c :: r) = some (k, n)) :
    scan (c :: r) p = ((k, (c :: r).take n, p) :: (scan ((c :: r).drop n) (p + n)).1, (scan ((c :: r).drop n) (p + n)).2) := by
  have ⟨n1, n2⟩ := lexL_pos e
  have l : (c :: r).length = r.length + 1 := rfl
  have q : scanF (r.length + 1) ((c :: r).drop n) (p + n) = scan ((c :: r).drop n) (p + n) := scanF_enough _ _ _ _ (by rw [List.length_drop]; omega) (Nat.lt_succ_self _)
  show scanF (r.length + 1 + 1) (c :: r) p = _
  unfold scanF
  rw [if_neg (by rw [h]; exact Bool.false_ne_true), e]
  show ((k, (c :: r).take n, p) :: (scanF (r.length + 1) ((c :: r).drop n) (p + n)).1, (scanF (r.length + 1) ((c :: r).drop n) (p + n)).2) = _
  rw [q]
/-- where the reading stops -/
def stopAt (t : List Nat) (o : Option Nat) : Nat := o.getD t.length
theorem at_drop {t : List Nat} {p : Nat} (h : p < t.length) : t.drop p = t[p] :: t.drop (p + 1) := List.drop_eq_getElem_cons h
/-! the tuples of lexemes, in the heap -/
def tkV (t : Tk) : List V := [.str t.1, .str (txt t.2.1), .int (t.2.2 : Nat)]
inductive Tks (H : Hp) : List V → List Tk → Prop
  | nil : Tks H [] []
  | cons {a : Addr} {t : Tk} {xs : List V} {ts : List Tk} (e : H a = some (.tup (tkV t))) (h : Tks H xs ts) : Tks H (.ref a :: xs) (t :: ts)
theorem Tks.keep {H H' : Hp} (g : ∀ a xs, H a = some (.tup xs) → H' a = some (.tup xs)) : ∀ {xs : List V} {ts : List Tk}, Tks H xs ts → Tks H' xs ts
  | _, _, .nil => .nil
  | _, _, .cons e h => .cons (g _ _ e) (h.keep g)
theorem Tks.same {H H' : Hp} {xs : List V} {ts : List Tk} (h : Tks H xs ts) (g : Same H H') : Tks H' xs ts := h.keep fun a _ e => g a _ e
theorem Tks.length {H : Hp} : ∀ {xs : List V} {ts : List Tk}, Tks H xs ts → xs.length = ts.length
  | _, _, .nil => rfl
  | _, _, .cons _ h => congrArg (· + 1) h.length
theorem Tks.snoc {H : Hp} {a : Addr} {t : Tk} (e : H a = some (.tup (tkV t))) : ∀ {xs : List V} {ts : List Tk}, Tks H xs ts → Tks H (xs ++ [.ref a]) (ts ++ [t])
  | _, _, .nil => .cons e .nil
  | _, _, .cons e' h => .cons e' (h.snoc e)
/-- the list at a, which is new, holds these -/
structure TkL (H : Hp) (a : Addr) (ts : List Tk) : Prop where
  at_ : ∃ xs, H a = some (.lst xs) ∧ Tks H xs ts
end My
namespace My
open PySem PySem.Spec PyProof.Rows L2
/-! ### run_end, lexeme_at, scanned -/
theorem sz6 {n : Nat} (h : n ≤ 100000) : n ≤ sizeLine := by rw [sizeLine_eq]; omega
def spRun : Sp := fun vs H Q _ => ∃ (z S : Str) (p : Nat), vs = [.str z, .int (p : Nat), .str S] ∧ z.length ≤ 100000 ∧ p ≤ z.length ∧ Q (.int ((p + runL (inS S) (z.cps.toList.drop p) : Nat) : Int)) H
/-- a lexeme at p, or none -/
def spLexAt : Sp := fun vs H Q _ => ∃ (z : Str) (p : Nat), vs = [.str z, .int (p : Nat)] ∧ z.length ≤ 100000 ∧ p < z.length ∧
  (lexL (z.cps.toList.drop p) = none → Q .non H) ∧
  ∀ (k : Str) (n : Nat) (a : Addr), lexL (z.cps.toList.drop p) = some (k, n) → H a = none → Q (.ref a) (upd H a (.tup (tkV (k, (z.cps.toList.drop p).take n, p))))
def spScanned : Sp := fun vs H Q _ => ∃ (z : Str), vs = [.str z] ∧ z.length ≤ 100000 ∧
  ∀ (a b : Addr) (xs : List V) (H' : Hp), Same H H' → H b = none → H' b = some (.lst xs) → Tks H' xs (scan z.cps.toList 0).1 →
    H' a = some (.tup [.ref b, .int (stopAt z.cps.toList (scan z.cps.toList 0).2 : Nat)]) → Q (.ref a) H'
theorem cut_at {z : Str} {p n : Nat} (h : p + n ≤ z.length) : cutS z (some (p : Int)) (some ((p + n : Nat) : Int)) = txt ((z.cps.toList.drop p).take n) := by
  have e1 : HT.sIx z.length 0 (some (p : Int)) = p := by
    show (if ((p : Int)) < 0 then ((p : Int) + (z.length : Int)).toNat else min ((p : Int)).toNat z.length) = p
    rw [if_neg (by omega)]
    omega
  have e2 : HT.sIx z.length z.length (some ((p + n : Nat) : Int)) = p + n := by
    show (if (((p + n : Nat) : Int)) < 0 then (((p + n : Nat) : Int) + (z.length : Int)).toNat else min (((p + n : Nat) : Int)).toNat z.length) = p + n
    rw [if_neg (by omega)]
    omega
  show (⟨((z.cps.toList.drop (HT.sIx z.length 0 (some (p : Int)))).take (HT.sIx z.length z.length (some ((p + n : Nat) : Int)) - HT.sIx z.length 0 (some (p : Int)))).toArray⟩ : Str) = _
  rw [e1, e2, Nat.add_sub_cancel_left]
  rfl
theorem of_zero {c : Nat} (h : V.str ⟨#[c]⟩ = V.str "0") : c = 48 := by
  have e0 : ("0" : Str) = ⟨#[48]⟩ := by decide +kernel
  rw [e0] at h
  have e2 : (⟨#[c]⟩ : Str) = ⟨#[48]⟩ := V.str.inj h
  have e3 : (#[c] : Array Nat) = #[48] := congrArg Str.cps e2
  have e4 : [c] = [48] := congrArg Array.toList e3
  exact (List.cons.inj e4).1
section
variable {P : Program} {w : World} {K : PySem.W.Frag} {mg : Str → Option Value} {base : Heap}
theorem get_at {z : Str} {p : Nat} (h : p < z.length) : ∃ c, atI z.cps.toList (p : Int) = some c ∧ z.cps.toList.drop p = c :: z.cps.toList.drop (p + 1) := by
  have hl : p < z.cps.toList.length := by rw [str_len]; exact h
  exact ⟨z.cps.toList[p], atI_nat (List.getElem?_eq_getElem hl), at_drop hl⟩
/-- the whole number in a slot -/
def intAt (i : Nat) (σ : L2.St) : Nat := match σ[i]? with
  | some (some (.int j)) => j.toNat
  | _ => 0
theorem ok_run_end (T : Tx K mg) : FnOk P w K mg base CX0 1 T.a_run_end T.fd_run_end ["text", "place", "signs"] spRun := by
  refine T.F_run_end.ok sc_run_end (fun vs H Q E h => ?_) (fun cdv A outer st H vs Q E hr h => ?_)
  · obtain ⟨z, S, p, rfl, _⟩ := h
    rfl
  obtain ⟨z, S, p0, rfl, hz, hp0, k⟩ := h
  refine ⟨_, ((pss_cons (ps_while PassesOwn.never (PW.pt (pw_and (pt_cmpR op_lt (pv 1) (pe_callB call_len_str (by rfl) T.n_len (by decide +kernel) (pa_cons (pv 0) pa_nil)) (nomark _)) (pw_and1 (pt_cmpR op_in_sign (pe_ix ix_str (pv 0) (pv 1) (fun _ _ => rfl)) (pv 2) (by rfl)))))
        (pss_one (ps_aug (i := 1) sc_run_end.nd rfl (Or.inl rfl) pe_int ip_add)))
      (pss_one (ps_ret (pv 1))))), ?_⟩
  refine while_b (fun σ' H' => ∃ p : Nat, σ' = [some (.str z), some (.int (p : Nat)), some (.str S)] ∧ H' = H ∧ p ≤ z.length ∧ p + runL (inS S) (z.cps.toList.drop p) = p0 + runL (inS S) (z.cps.toList.drop p0))
    (fun σ' _ => z.length - intAt 1 σ') ⟨p0, rfl, rfl, hp0, rfl⟩ ?_
  rintro σ' H' ⟨p, rfl, rfl, l1, e⟩
  by_cases hp : p < z.length
  · obtain ⟨c, ec, ed⟩ := get_at hp
    cases hc : inS S c with
    | true =>
      rw [ed, runL_yes hc] at e
      refine ⟨true, fun Q' q => ?_, iteT ?_⟩
      · refine ⟨_, rfl, _, rfl, z, rfl, sz6 hz, _, _, rfl, rfl, _, rfl, iteD (fun _ => ?_) (fun n => absurd (by omega) n)⟩
        refine ⟨_, rfl, _, rfl, z, _, c, rfl, rfl, sz6 hz, ec, _, rfl, c, S, rfl, rfl, _, rfl, ?_⟩
        have hc' : decide (c ∈ S.cps.toList) = true := hc
        rw [hc']
        exact q
      · refine ⟨_, rfl, _, _, rfl, rfl, ?_⟩
        have ep : ((p : Nat) : Int) + 1 = ((p + 1 : Nat) : Int) := by omega
        refine ⟨⟨p + 1, ?_, rfl, by omega, by omega⟩, ?_⟩
        · show [some (V.str z), some (V.int ((p : Nat) + 1)), some (V.str S)] = _
          rw [ep]
        · show z.length - (((p : Nat) : Int) + 1).toNat < z.length - ((p : Nat) : Int).toNat
          omega
    | false =>
      rw [ed, runL_no hc] at e
      refine ⟨false, fun Q' q => ?_, iteF ⟨_, rfl, by rw [← e] at k; exact k⟩⟩
      refine ⟨_, rfl, _, rfl, z, rfl, sz6 hz, _, _, rfl, rfl, _, rfl, iteD (fun _ => ?_) (fun n => absurd (by omega) n)⟩
      refine ⟨_, rfl, _, rfl, z, _, c, rfl, rfl, sz6 hz, ec, _, rfl, c, S, rfl, rfl, _, rfl, ?_⟩
      have hc' : decide (c ∈ S.cps.toList) = false := hc
      rw [hc']
      exact q
  · have e0 : z.cps.toList.drop p = [] := List.drop_eq_nil_of_le (by rw [str_len]; omega)
    rw [e0, runL_nil] at e
    refine ⟨false, fun Q' q => ?_, iteF ⟨_, rfl, by rw [← e] at k; exact k⟩⟩
    exact ⟨_, rfl, _, rfl, z, rfl, sz6 hz, _, _, rfl, rfl, _, rfl, iteD (fun n => absurd n (by omega)) (fun _ => q)⟩
theorem ok_law_run (T : Tx K mg) : FnOk P w K mg base CX0 1 T.a_law_run T.fd_law_run ["_law_text", "_law_place", "_law_signs"] spRun := by
  refine T.F_law_run.ok sc_law_run (fun vs H Q E h => ?_) (fun cdv A outer st H vs Q E hr h => ?_)
  · obtain ⟨z, S, p, rfl, _⟩ := h
    rfl
  obtain ⟨z, S, p0, rfl, hz, hp0, k⟩ := h
  refine ⟨_, ((pss_cons (ps_while PassesOwn.never (PW.pt (pw_and (pt_cmpR op_lt (pv 1) (pe_callB call_len_str (by rfl) T.n_len (by decide +kernel) (pa_cons (pv 0) pa_nil)) (nomark _)) (pw_and1 (pt_cmpR op_in_sign (pe_ix ix_str (pv 0) (pv 1) (fun _ _ => rfl)) (pv 2) (by rfl)))))
        (pss_one (ps_set (i := 1) sc_law_run.nd rfl (Or.inl rfl) (pe_op op_add (pv 1) pe_int))))
      (pss_one (ps_ret (pv 1))))), ?_⟩
  refine while_b (fun σ' H' => ∃ p : Nat, σ' = [some (.str z), some (.int (p : Nat)), some (.str S)] ∧ H' = H ∧ p ≤ z.length ∧ p + runL (inS S) (z.cps.toList.drop p) = p0 + runL (inS S) (z.cps.toList.drop p0))
    (fun σ' _ => z.length - intAt 1 σ') ⟨p0, rfl, rfl, hp0, rfl⟩ ?_
  rintro σ' H' ⟨p, rfl, rfl, l1, e⟩
  by_cases hp : p < z.length
  · obtain ⟨c, ec, ed⟩ := get_at hp
    cases hc : inS S c with
    | true =>
      rw [ed, runL_yes hc] at e
      refine ⟨true, fun Q' q => ?_, iteT ?_⟩
      · refine ⟨_, rfl, _, rfl, z, rfl, sz6 hz, _, _, rfl, rfl, _, rfl, iteD (fun _ => ?_) (fun n => absurd (by omega) n)⟩
        refine ⟨_, rfl, _, rfl, z, _, c, rfl, rfl, sz6 hz, ec, _, rfl, c, S, rfl, rfl, _, rfl, ?_⟩
        have hc' : decide (c ∈ S.cps.toList) = true := hc
        rw [hc']
        exact q
      · refine ⟨_, rfl, _, _, rfl, rfl, ?_⟩
        have ep : ((p : Nat) : Int) + 1 = ((p + 1 : Nat) : Int) := by omega
        refine ⟨⟨p + 1, ?_, rfl, by omega, by omega⟩, ?_⟩
        · show [some (V.str z), some (V.int ((p : Nat) + 1)), some (V.str S)] = _
          rw [ep]
        · show z.length - (((p : Nat) : Int) + 1).toNat < z.length - ((p : Nat) : Int).toNat
          omega
    | false =>
      rw [ed, runL_no hc] at e
      refine ⟨false, fun Q' q => ?_, iteF ⟨_, rfl, by rw [← e] at k; exact k⟩⟩
      refine ⟨_, rfl, _, rfl, z, rfl, sz6 hz, _, _, rfl, rfl, _, rfl, iteD (fun _ => ?_) (fun n => absurd (by omega) n)⟩
      refine ⟨_, rfl, _, rfl, z, _, c, rfl, rfl, sz6 hz, ec, _, rfl, c, S, rfl, rfl, _, rfl, ?_⟩
      have hc' : decide (c ∈ S.cps.toList) = false := hc
      rw [hc']
      exact q
  · have e0 : z.cps.toList.drop p = [] := List.drop_eq_nil_of_le (by rw [str_len]; omega)
    rw [e0, runL_nil] at e
    refine ⟨false, fun Q' q => ?_, iteF ⟨_, rfl, by rw [← e] at k; exact k⟩⟩
    exact ⟨_, rfl, _, rfl, z, rfl, sz6 hz, _, _, rfl, rfl, _, rfl, iteD (fun n => absurd n (by omega)) (fun _ => q)⟩
theorem ok_lexeme_at (T : Tx K mg) : FnOk P w K mg base CX0 2 T.a_lexeme_at T.fd_lexeme_at ["text", "place"] spLexAt := by
  refine T.F_lexeme_at.ok sc_lexeme_at (fun vs H Q E h => ?_) (fun cdv A outer st H vs Q E hr h => ?_)
  · obtain ⟨z, p, rfl, _⟩ := h
    rfl
  obtain ⟨z, p, rfl, hz, hp, kN, kS⟩ := h
  have G_run_end : FnOk P w K mg base CX0 1 T.a_run_end T.fd_run_end ["text", "place", "signs"] spRun := ok_run_end T
  have hr_run_end : Room 1 _ := hr
  refine ⟨_, ((pss_cons (ps_set (i := 2) sc_lexeme_at.nd rfl (Or.inl rfl) (pe_ix ix_str (pv 0) (pv 1) (fun _ _ => rfl)))
      (pss_cons (ps_if (pt_cmpR op_in_sign (pv 2) (pe_gstr rfl T.c_SIGNS) (by rfl))
        (pss_one (ps_ret (pe_tup (pa_cons pe_str (pa_cons (pv 2) (pa_cons (pv 1) pa_nil))))))
        pss_nil)
      (pss_cons (ps_if (pt_cmpR op_in_sign (pv 2) (pe_gstr rfl T.c_LETTERS) (by rfl))
        (pss_cons (ps_set (i := 3) sc_lexeme_at.nd rfl (Or.inl rfl) (pe_call G_run_end hr_run_end rfl T.m_run_end T.F_run_end.kp T.b_run_end .nil pass0 (pa_cons (pv 0) (pa_cons (pv 1) (pa_cons (pe_op op_add_str (pe_gstr rfl T.c_LETTERS) (pe_gstr rfl T.c_DIGITS)) pa_nil)))))
      (pss_one (ps_ret (pe_ifExp (pt_cmpR op_le (pe_op op_sub (pv 3) (pv 1)) (pe_gint rfl T.c_LONGEST_WORD) (nomark _)) (pe_tup (pa_cons pe_str (pa_cons (pe_slice sl_str (pv 0) (po_some (pv 1)) (po_some (pv 3))) (pa_cons (pv 1) pa_nil)))) pe_non))))
        pss_nil)
      (pss_cons (ps_if (pt_cmpR op_in_sign (pv 2) (pe_gstr rfl T.c_DIGITS) (by rfl))
        (pss_cons (ps_set (i := 3) sc_lexeme_at.nd rfl (Or.inl rfl) (pe_ifExp (pt_cmpR op_eq (pv 2) pe_str (nomark _)) (pe_op op_add (pv 1) pe_int) (pe_call G_run_end hr_run_end rfl T.m_run_end T.F_run_end.kp T.b_run_end .nil pass0 (pa_cons (pv 0) (pa_cons (pv 1) (pa_cons (pe_gstr rfl T.c_DIGITS) pa_nil))))))
      (pss_one (ps_ret (pe_tup (pa_cons pe_str (pa_cons (pe_slice sl_str (pv 0) (po_some (pv 1)) (po_some (pv 3))) (pa_cons (pv 1) pa_nil)))))))
        pss_nil)
      (pss_one (ps_ret pe_non))))))), ?_⟩
  obtain ⟨c, ec, ed⟩ := get_at hp
  rw [ed] at kN kS
  have le : ∀ q, runL q (c :: z.cps.toList.drop (p + 1)) ≤ z.length - p := fun q => by
    have l := runL_le q (c :: z.cps.toList.drop (p + 1))
    rw [← ed, List.length_drop, str_len, ed] at l
    exact l
  have lexIs : lexL (c :: z.cps.toList.drop (p + 1)) = lexC c (z.cps.toList.drop (p + 1)) := rfl
  refine ⟨_, rfl, _, rfl, z, _, c, rfl, rfl, sz6 hz, ec, ?_⟩
  refine ⟨_, rfl, c, _, rfl, rfl, _, rfl, iteD (fun h1 => ?_) (fun h1 => ?_)⟩
  · have h1' : inS SGN c = true := decide_eq_true h1
    refine ⟨_, rfl, _, rfl, (by show 3 ≤ sizeLine; decide), fun a ha => kS "sign" 1 a ?_ ha⟩
    rw [lexIs]; unfold lexC; rw [if_pos h1']
  have h1' : ¬ inS SGN c = true := fun z => h1 (of_decide_eq_true z)
  refine ⟨_, rfl, c, _, rfl, rfl, _, rfl, iteD (fun h2 => ?_) (fun h2 => ?_)⟩
  · have h2' : inS LTR c = true := decide_eq_true h2
    refine ⟨_, rfl, _, rfl, _, _, rfl, rfl, (by show 26 + 10 ≤ sizeLine; decide), z, LTR ++ DIG, p, rfl, hz, Nat.le_of_lt hp, ?_⟩
    rw [ed]
    have ln := le (inS (LTR ++ DIG))
    generalize hn : runL (inS (LTR ++ DIG)) (c :: z.cps.toList.drop (p + 1)) = n at ln
    refine ⟨_, rfl, _, rfl, _, _, rfl, rfl, _, _, rfl, rfl, _, rfl, iteD (fun h3 => ?_) (fun h3 => ?_)⟩
    · refine ⟨_, rfl, _, rfl, _, rfl, _, rfl, _, rfl, z, rfl, sz6 hz, ?_⟩
      rw [cut_at (by omega), ed]
      refine ⟨_, rfl, (by show 3 ≤ sizeLine; decide), fun a ha => kS "word" n a ?_ ha⟩
      rw [lexIs]; unfold lexC; rw [if_neg h1', if_pos h2', hn, if_pos (by omega)]
    · refine kN ?_
      rw [lexIs]; unfold lexC; rw [if_neg h1', if_pos h2', hn, if_neg (by omega)]
  have h2' : ¬ inS LTR c = true := fun z => h2 (of_decide_eq_true z)
  refine ⟨_, rfl, c, _, rfl, rfl, _, rfl, iteD (fun h3 => ?_) (fun h3 => ?_)⟩
  · have h3' : inS DIG c = true := decide_eq_true h3
    have lex3 : lexC c (z.cps.toList.drop (p + 1)) = some (("number" : Str), if c = 48 then 1 else runL (inS DIG) (c :: z.cps.toList.drop (p + 1))) := by
      unfold lexC; rw [if_neg h1', if_neg h2', if_pos h3']
    refine ⟨_, rfl, rfl, _, rfl, iteD (fun h4 => ?_) (fun h4 => ?_)⟩
    · have e4 := of_zero h4
      have ep : ((p : Nat) : Int) + 1 = ((p + 1 : Nat) : Int) := by omega
      refine ⟨_, rfl, _, _, rfl, rfl, ?_⟩
      refine ⟨_, rfl, _, rfl, _, rfl, _, rfl, _, rfl, z, rfl, sz6 hz, ?_⟩
      have ec : cutS z (some (p : Int)) (some ((p : Nat) + 1 : Int)) = txt ((c :: z.cps.toList.drop (p + 1)).take 1) := by
        rw [ep, cut_at (by omega), ed]
      refine ⟨_, rfl, (by show 3 ≤ sizeLine; decide), fun a ha => ?_⟩
      have q := kS "number" 1 a (by rw [lexIs, lex3, if_pos e4]) ha
      unfold tkV at q
      rw [← ec] at q
      exact q
    · have e4 : ¬ c = 48 := fun e => h4 (by rw [e]; decide +kernel)
      refine ⟨_, rfl, _, rfl, z, DIG, p, rfl, hz, Nat.le_of_lt hp, ?_⟩
      rw [ed]
      rw [if_neg e4] at lex3
      have ln := le (inS DIG)
      generalize hn : runL (inS DIG) (c :: z.cps.toList.drop (p + 1)) = n at ln lex3
      refine ⟨_, rfl, _, rfl, _, rfl, _, rfl, _, rfl, z, rfl, sz6 hz, ?_⟩
      rw [cut_at (by omega), ed]
      exact ⟨_, rfl, (by show 3 ≤ sizeLine; decide), fun a ha => kS "number" n a lex3 ha⟩
  · refine kN ?_
    rw [lexIs]; unfold lexC; rw [if_neg h1', if_neg h2', if_neg (fun z : inS DIG c = true => h3 (of_decide_eq_true z))]
theorem Tks.upd {H : Hp} {b : Addr} {o : HO} {xs : List V} {ts : List Tk} (h : Tks H xs ts) {ys : List V} (e : H b = some (.lst ys)) : Tks (L2.upd H b o) xs ts :=
  h.keep fun a zs q => by rw [upd_ne (ne_of q e (by intro z; cases z))]; exact q
theorem ok_scanned (T : Tx K mg) : FnOk P w K mg base CX0 3 T.a_scanned T.fd_scanned ["text"] spScanned := by
  refine T.F_scanned.ok sc_scanned (fun vs H Q E h => ?_) (fun cdv A outer st H vs Q E hr h => ?_)
  · obtain ⟨z, rfl, _⟩ := h
    rfl
  obtain ⟨z, rfl, hz, k⟩ := h
  have G_lexeme_at : FnOk P w K mg base CX0 2 T.a_lexeme_at T.fd_lexeme_at ["text", "place"] spLexAt := ok_lexeme_at T
  have hr_lexeme_at : Room 2 _ := hr
  refine ⟨_, ((pss_cons (ps_set (i := 1) sc_scanned.nd rfl (Or.inl rfl) (pe_lst pa_nil))
      (pss_cons (ps_set (i := 2) sc_scanned.nd rfl (Or.inl rfl) pe_int)
      (pss_cons (ps_while PassesOwn.never (pt_cmpR op_lt (pv 2) (pe_callB call_len_str (by rfl) T.n_len (by decide +kernel) (pa_cons (pv 0) pa_nil)) (nomark _))
        (pss_cons (ps_if (pt_cmpR op_in_sign (pe_ix ix_str (pv 0) (pv 2) (fun _ _ => rfl)) (pe_gstr rfl T.c_BLANKS) (by rfl))
        (pss_cons (ps_aug (i := 2) sc_scanned.nd rfl (Or.inl rfl) pe_int ip_add)
      (pss_one ps_continue))
        pss_nil)
      (pss_cons (ps_set (i := 3) sc_scanned.nd rfl (Or.inl rfl) (pe_call G_lexeme_at hr_lexeme_at rfl T.m_lexeme_at T.F_lexeme_at.kp T.b_lexeme_at .nil pass0 (pa_cons (pv 0) (pa_cons (pv 2) pa_nil))))
      (pss_cons (ps_if (pt_cmpR op_isN (pv 3) pe_non (nomark _))
        (pss_one (ps_ret (pe_tup (pa_cons (pv 1) (pa_cons (pv 2) pa_nil)))))
        pss_nil)
      (pss_cons (ps_expr (pe_bm PySem.F.plainAttrs_list PySem.F.slot_list_append PySem.F.type_list_append mt_append (pv 1) (pa_cons (pv 3) pa_nil)))
      (pss_one (ps_aug (i := 2) sc_scanned.nd rfl (Or.inl rfl) (pe_callB call_len_str (by rfl) T.n_len (by decide +kernel) (pa_cons (pe_ix ix_tup (pv 3) pe_int (fun _ _ => rfl)) pa_nil)) ip_add)))))))
      (pss_one (ps_ret (pe_tup (pa_cons (pv 1) (pa_cons (pv 2) pa_nil))))))))), ?_⟩
  refine ⟨Nat.zero_le _, fun b hb => ?_⟩
  refine while_b (fun σ H' => ∃ (p : Nat) (lx : Option V) (xs : List V) (ts : List Tk), σ = [some (.str z), some (.ref b), some (.int (p : Nat)), lx] ∧ Same H H' ∧ H' b = some (.lst xs) ∧ Tks H' xs ts ∧ p ≤ z.length ∧ ts.length ≤ p ∧
      ts ++ (scan (z.cps.toList.drop p) p).1 = (scan z.cps.toList 0).1 ∧ (scan (z.cps.toList.drop p) p).2 = (scan z.cps.toList 0).2)
    (fun σ _ => z.length - intAt 2 σ) ⟨0, none, [], [], rfl, same_new hb _, upd_same, .nil, Nat.zero_le _, Nat.le_refl _, rfl, rfl⟩ ?_
  rintro σ H1 ⟨p, lx, xs, ts, rfl, s1, eb, tk, hp, htp, e1, e2⟩
  have done : ∀ q : Nat, q = stopAt z.cps.toList (scan z.cps.toList 0).2 → ts = (scan z.cps.toList 0).1 → ∀ a, H1 a = none → Q (.ref a) (upd H1 a (.tup [.ref b, .int (q : Nat)])) := fun q eq et a ha => by
    have s2 := same_new ha (.tup [.ref b, .int (q : Nat)])
    refine k a b xs _ (s1.trans s2) hb (s2 _ _ eb) (by rw [← et]; exact tk.same s2) (by rw [← eq]; exact upd_same)
  by_cases hlt : p < z.length
  · obtain ⟨c, ec, ed⟩ := get_at hlt
    refine ⟨true, fun Q' q => ⟨_, rfl, _, rfl, z, rfl, sz6 hz, _, _, rfl, rfl, _, rfl, by rw [decide_eq_true (by omega : ((p : Nat) : Int) < (z.length : Int))]; exact q⟩, iteT ?_⟩
    rw [ed] at e1 e2
    refine ⟨_, rfl, _, rfl, z, _, c, rfl, rfl, sz6 hz, ec, c, BLK, rfl, rfl, _, rfl, iteD (fun hk => ?_) (fun hk => ?_)⟩
    · have hk' : inS BLK c = true := decide_eq_true hk
      rw [scan_blank hk'] at e1 e2
      have ep : ((p : Nat) : Int) + 1 = ((p + 1 : Nat) : Int) := by omega
      refine ⟨_, rfl, _, _, rfl, rfl, ⟨p + 1, lx, xs, ts, ?_, s1, eb, tk, hlt, by omega, e1, e2⟩, ?_⟩
      · show [some (V.str z), some (V.ref b), some (V.int ((p : Nat) + 1)), lx] = _
        rw [ep]
      · show z.length - (((p : Nat) : Int) + 1).toNat < z.length - ((p : Nat) : Int).toNat
        omega
    · have hk' : inS BLK c = false := decide_eq_false hk
      refine ⟨_, rfl, _, rfl, z, p, rfl, hz, hlt, fun en => ?_, fun kd n a en ha => ?_⟩
      · rw [ed] at en
        rw [scan_none hk' en] at e1 e2
        refine ⟨_, rfl, rfl, _, rfl, iteT ?_⟩
        refine ⟨_, rfl, _, rfl, (by show 2 ≤ sizeLine; decide), fun a ha => done p ?_ ?_ a ha⟩
        · rw [← e2]; rfl
        · rw [← e1, List.append_nil]
      · rw [ed] at en
        rw [scan_some hk' en] at e1 e2
        have ⟨n1, n2⟩ := lexL_pos en
        rw [← ed, List.length_drop, str_len] at n2
        refine ⟨_, rfl, rfl, _, rfl, iteF ?_⟩
        have s3 := same_new ha (.tup (tkV (kd, (z.cps.toList.drop p).take n, p)))
        have eb3 := s3 _ _ eb
        refine ⟨_, rfl, .inl ⟨rfl, _, SqL.of eb3⟩, _, rfl, b, xs, _, rfl, rfl, eb3, ?_, ?_⟩
        · rw [tk.length]; exact Nat.lt_of_lt_of_le (by omega : ts.length < 100001) (by rw [sizeLine_eq]; decide)
        have n3 : b ≠ a := ne_of_none eb ha
        have ea4 : upd (upd H1 a (.tup (tkV (kd, (z.cps.toList.drop p).take n, p)))) b (.lst (xs ++ [.ref a])) a = some (.tup (tkV (kd, (z.cps.toList.drop p).take n, p))) := by
          rw [upd_ne n3.symm]; exact upd_same
        have tk4 := (tk.same s3).upd (o := .lst (xs ++ [.ref a])) eb3
        have lt : (txt ((z.cps.toList.drop p).take n)).length = n := by
          rw [txt_len, List.length_take, List.length_drop, str_len]; omega
        refine ⟨_, rfl, _, rfl, a, _, _, _, rfl, rfl, SqT.of ea4, rfl, _, rfl, by rw [lt]; exact sz6 (by omega), _, _, rfl, rfl, ?_⟩
        rw [lt]
        refine ⟨⟨p + n, some (.ref a), xs ++ [.ref a], ts ++ [(kd, (z.cps.toList.drop p).take n, p)], ?_, ?_, upd_same, tk4.snoc ea4, by omega, ?_, ?_, ?_⟩, ?_⟩
        · show [some (V.str z), some (V.ref b), some (V.int ((p : Nat) + (n : Nat))), some (.ref a)] = _
          rfl
        · intro q u hq
          rw [upd_ne (ne_of_none hq hb)]
          exact s3 _ _ (s1 _ _ hq)
        · rw [List.length_append]; show ts.length + 1 ≤ p + n; omega
        · rw [List.append_assoc, ← e1, ← ed, List.drop_drop]; rfl
        · rw [← e2, ← ed, List.drop_drop]
        · show z.length - (((p : Nat) : Int) + (n : Int)).toNat < z.length - ((p : Nat) : Int).toNat
          omega
  · have ep : p = z.length := by omega
    have e0 : z.cps.toList.drop p = [] := List.drop_eq_nil_of_le (by rw [str_len]; omega)
    rw [e0, scan_nil] at e1 e2
    refine ⟨false, fun Q' q => ⟨_, rfl, _, rfl, z, rfl, sz6 hz, _, _, rfl, rfl, _, rfl, by rw [decide_eq_false (by omega : ¬ ((p : Nat) : Int) < (z.length : Int))]; exact q⟩, iteF ?_⟩
    refine ⟨_, rfl, _, rfl, (by show 2 ≤ sizeLine; decide), fun a ha => done p ?_ ?_ a ha⟩
    · rw [← e2]; show p = z.cps.toList.length; rw [str_len]; exact ep
    · rw [← e1, List.append_nil]
end
end My
namespace My
open PySem PySem.Spec PyProof.Rows L2
/-! ### lexemes, and what the law is told -/
theorem scanF_lt : ∀ (f : Nat) (t : List Nat) (p q : Nat), (scanF f t p).2 = some q → p ≤ q ∧ q < p + t.length
  | 0, _, _, _, h => nomatch h
  | _ + 1, [], _, _, h => nomatch h
  | f + 1, c :: r, p, q, h => by
    have l : (c :: r).length = r.length + 1 := rfl
    unfold scanF at h
    by_cases hb : inS BLK c = true
    · rw [if_pos hb] at h
      have := scanF_lt f r (p + 1) q h
      omega
    · rw [if_neg hb] at h
      cases e : lexL (c :: r) with
      | none =>
        rw [e] at h
        have h' : some p = some q := h
        cases h'
        omega
      | some kn =>
        obtain ⟨k, n⟩ := kn
        have ⟨n1, n2⟩ := lexL_pos e
        rw [e] at h
        have h' : (scanF f ((c :: r).drop n) (p + n)).2 = some q := h
        have := scanF_lt f _ _ _ h'
        rw [List.length_drop] at this
        omega
theorem scan_lt {t : List Nat} {q : Nat} (h : (scan t 0).2 = some q) : q < t.length := by
  have := scanF_lt _ _ _ _ h
  omega
def spLexemes (C : Addr) : Sp := fun vs H Q E => ∃ (z : Str), vs = [.str z] ∧ z.length ≤ 100000 ∧
  ((scan z.cps.toList 0).2 = none → ∀ (b : Addr) (xs : List V) (H' : Hp), Same H H' → H b = none → H' b = some (.lst xs) → Tks H' xs (scan z.cps.toList 0).1 → Q (.ref b) H') ∧
  (∀ q, (scan z.cps.toList 0).2 = some q → ∀ (d : Addr) (H' : Hp), Same H H' → H' d = some (.xd [("place", .int (q : Nat))]) → E (.ref C) (some d) H')
def spTold : Sp := fun vs H Q _ => ∃ (z : Str), vs = [.str z] ∧ z.length ≤ 100000 ∧
  ((scan z.cps.toList 0).2 = none → ∀ (a b : Addr) (xs : List V) (H' : Hp), Same H H' → H a = none → H b = none → a ≠ b → H' a = some (.lst [.str "told", .ref b]) → H' b = some (.lst xs) → Tks H' xs (scan z.cps.toList 0).1 → Q (.ref a) H') ∧
  (∀ q, (scan z.cps.toList 0).2 = some q → ∀ (a : Addr) (H' : Hp), Same H H' → H a = none → H' a = some (.lst [.str "refused", .int (q : Nat)]) → Q (.ref a) H')
section
variable {P : Program} {w : World} {K : PySem.W.Frag} {mg : Str → Option Value} {base : Heap}
theorem ok_badText (T : Tx K mg) : FnOk P w K mg base CX0 1 T.e_BadText.fI T.e_BadText.fd ["self", "place"] (spInit T.e_BadText.C "place") := by
  refine T.e_BadText.F.ok sc_BadText (fun vs H Q E h => ?_) (fun cdv A outer st H vs Q E hr h => ?_)
  · obtain ⟨a, v, rfl, _⟩ := h
    rfl
  obtain ⟨a, v, rfl, ha, k⟩ := h
  refine ⟨_, pss_one (ps_ost (pv 0) (pv 1)), ?_⟩
  exact ⟨_, rfl, _, rfl, a, _, rfl, T.e_BadText.oex, T.e_BadText.noF, .inl ⟨ha, fun dx h1 h2 => k dx h1 h2⟩⟩
theorem ok_lexemes (T : Tx K mg) : FnOk P w K mg base (L2.CX P w) 4 T.a_lexemes T.fd_lexemes ["text"] (spLexemes T.e_BadText.C) := by
  refine T.F_lexemes.okX sc_lexemes (fun vs H Q E h => ?_) (fun cdv A outer st H vs Q E hr h => ?_)
  · obtain ⟨z, rfl, _⟩ := h
    rfl
  obtain ⟨z, rfl, hz, kN, kE⟩ := h
  have G_scanned : FnOk P w K mg base CX0 3 T.a_scanned T.fd_scanned ["text"] spScanned := ok_scanned T
  have hr_scanned : Room 3 _ := hr
  have hr2 : Room 2 _ := hr.mono (by decide)
  refine ⟨_, ((pss_cons (ps_asg (pe_call G_scanned hr_scanned rfl T.m_scanned T.F_scanned.kp T.b_scanned .nil pass0 (pa_cons (pv 0) pa_nil)) (pg_tup rfl (pgs_cons (pg_name (i := 1) sc_lexemes.nd rfl (Or.inl rfl)) (pgs_cons (pg_name (i := 2) sc_lexemes.nd rfl (Or.inl rfl)) pgs_nil))))
      (pss_cons (ps_if (pt_cmpR op_lt (pv 2) (pe_callB call_len_str (by rfl) T.n_len (by decide +kernel) (pa_cons (pv 0) pa_nil)) (nomark _))
        (pss_one (ps_raise rfl (takes_of rfl rfl rfl rfl) (pmk_oex T.e_BadText.oex T.e_BadText.iC T.e_BadText.tI (ok_badText T) hr2 T.e_BadText.b .nil pass0 rfl T.e_BadText.m (pa_cons (pv 2) pa_nil))))
        pss_nil)
      (pss_one (ps_ret (pv 1)))))), ?_⟩
  refine ⟨_, rfl, z, rfl, hz, fun a b xs H1 s1 hb eb tk ea => ?_⟩
  refine ⟨a, _, rfl, SqT.of ea, rfl, _, _, rfl, _, _, rfl, rfl, ?_⟩
  refine ⟨_, rfl, _, rfl, z, rfl, sz6 hz, _, _, rfl, rfl, _, rfl, ?_⟩
  cases e : (scan z.cps.toList 0).2 with
  | none =>
    have e1 : stopAt z.cps.toList (none : Option Nat) = z.length := str_len z
    rw [e1, decide_eq_false (by omega)]
    exact iteF ⟨_, rfl, kN e b xs H1 s1 hb eb tk⟩
  | some q =>
    have l := scan_lt e
    rw [str_len] at l
    have e1 : stopAt z.cps.toList (some q) = q := rfl
    rw [e1, decide_eq_true (by omega)]
    refine iteT ⟨_, rfl, (by show 1 ≤ 1000; decide), fun x hx => ?_⟩
    refine ⟨x, _, rfl, upd_same, fun dx h1 h2 => ⟨rfl, dx, [("place", .int (q : Nat))], upd_same, ?_, ?_, ?_⟩⟩
    · rw [upd_ne h2]; exact upd_same
    · rw [upd_ne h2] at h1; exact h1
    · refine kE q e dx _ ?_ upd_same
      intro y u hy
      have hy1 := s1 _ _ hy
      have n1 : y ≠ x := ne_of_none hy1 hx
      have n2 : y ≠ dx := by
        rw [upd_ne h2] at h1
        exact ne_of_none hy1 h1
      rw [upd_ne n2, del_ne n1, upd_ne n1, upd_ne n2, upd_ne n1]
      exact hy1
theorem ok_told (T : Tx K mg) : FnOk P w K mg base CX0 5 T.a_law_told T.fd_law_told ["_law_text"] spTold := by
  refine T.F_law_told.ok sc_law_told (fun vs H Q E h => ?_) (fun cdv A outer st H vs Q E hr h => ?_)
  · obtain ⟨z, rfl, _⟩ := h
    rfl
  obtain ⟨z, rfl, hz, kN, kE⟩ := h
  have G_lexemes : FnOk P w K mg base (L2.CX P w) 4 T.a_lexemes T.fd_lexemes ["text"] (spLexemes T.e_BadText.C) := ok_lexemes T
  have hr_lexemes : Room 4 _ := hr
  refine ⟨_, ((pss_one (ps_try_as (i := 1) (tb := fun W => tRet (tLst (tCons (tC (.str "told")) (tCons (tCallS (spLexemes T.e_BadText.C) (WE W) (tCons (tVar 0) tNil)) tNil)))) (ts := fun a cls d => tRet (tLst (tCons (tC (.str "refused")) (tCons (tXf a cls d T.e_BadText.C "place" (tVar 1)) tNil)))) (Wout := fun _ _ _ _ => False) rfl rfl sc_law_told.nd rfl rfl ⟨rfl, by decide, Or.inl T.e_BadText.m⟩ takes0 (fun W pn xe tk _ => pss_one (ps_ret (pe_lst (pa_cons pe_str (pa_cons (pe_callS G_lexemes hr_lexemes rfl T.m_lexemes T.F_lexemes.kp T.b_lexemes (fun σ => passAt tk σ) (pa_cons (pv 0) pa_nil)) pa_nil))))) (fun a oe cls d pn hz hf => pss_one (ps_ret (pe_lst (pa_cons pe_str (pa_cons (pe_xf T.e_BadText.xf T.e_BadText.noF hz hf (pv 1)) pa_nil)))))))), ?_⟩
  refine ⟨_, rfl, z, rfl, hz, fun e b xs H1 s1 hb eb tk => ?_, fun q e d H1 s1 ed => ?_⟩
  · refine ⟨(by show 2 ≤ sizeLine; decide), fun a ha => ?_⟩
    have s2 := same_new ha (.lst [.str "told", .ref b])
    exact kN e a b xs _ (s1.trans s2) (s1.free ha) hb (ne_of_none eb ha).symm upd_same (s2 _ _ eb) (tk.same s2)
  · refine ⟨true, T.e_BadText.te, fun _ x hx => ?_, fun q => Bool.noConfusion q⟩
    refine ⟨_, rfl, rfl, rfl, d, _, _, rfl, ed, by simp [List.lookup]; rfl, (by show 2 ≤ sizeLine; decide), fun a ha => ?_⟩
    exact kE q e a _ (s1.trans (same_new ha _)) (s1.free ha) upd_same
end
end My
namespace My
open PySem PySem.Spec PyProof.Rows L2
/-! ### over the signs of a text -/
theorem lc_str {z : Str} {g : TG} {tt : TT} {te : TE} {vs : List Nat} {σ : L2.St} {H1 : Hp} {D : Addr} {Qd : Hp → Prop} (Pv : Nat → Hp → Prop) (h0 : Pv 0 (L2.upd H1 D (.lst [])))
    (hs : ∀ i c H, z.cps.toList[i]? = some c → Pv i H → g (.str ⟨#[c]⟩) (wipe σ vs) H fun σ2 H2 => wipe σ2 vs = wipe σ vs ∧ tt σ2 H2 fun b H3 =>
      if b = true then te σ2 H3 (fun y H4 => ∃ acc, H4 D = some (.lst acc) ∧ acc.length < sizeLine ∧ Pv (i + 1) (L2.upd H4 D (.lst (acc ++ [y])))) else Pv (i + 1) H3)
    (hd : ∀ H, Pv z.length H → Qd H) :
    ∃ W : Nat → Nat → Hp → Prop, (∃ m, W 0 m (L2.upd H1 D (.lst []))) ∧ ∀ i m H, W i m H → ((Its z).stop i H ∧ Qd H) ∨
      ((Its z).go i H ∧ ∃ N : Hp → Prop, (∀ H', N H' → ∃ m', m' < m ∧ W (i + 1) m' H') ∧ ∀ x H', (Its z).yld i H x H' → g x (wipe σ vs) H' fun σ2 H2 => wipe σ2 vs = wipe σ vs ∧ tt σ2 H2 fun b H3 =>
        if b = true then te σ2 H3 (fun y H4 => ∃ acc, H4 D = some (.lst acc) ∧ acc.length < sizeLine ∧ N (L2.upd H4 D (.lst (acc ++ [y])))) else N H3) := by
  refine ⟨fun i m H => m = z.length - i ∧ i ≤ z.length ∧ Pv i H, ⟨z.length, rfl, Nat.zero_le _, h0⟩, fun i m H ⟨em, hi, p⟩ => ?_⟩
  by_cases hlt : i < z.length
  · refine .inr ⟨hlt, Pv (i + 1), fun H' p' => ⟨z.length - (i + 1), by omega, rfl, hlt, p'⟩, fun x H' ⟨e1, c, e2, e3⟩ => ?_⟩
    rw [e1, e3]
    exact hs i c H (by rw [Array.getElem?_toList]; exact e2) p
  · have e : i = z.length := by omega
    exact .inl ⟨Nat.le_of_not_lt hlt, hd H (e ▸ p)⟩
theorem for_str {z : Str} {g : TG} {tb : TS} {D : Ends} {σ : L2.St} {H : Hp} (Pv : Nat → L2.St → Hp → Prop) (h0 : Pv 0 σ H)
    (hs : ∀ i c σ H, z.cps.toList[i]? = some c → Pv i σ H → g (.str ⟨#[c]⟩) σ H fun σ2 H2 => tb { D with nx := Pv (i + 1), ct := Pv (i + 1), bk := D.nx } σ2 H2) (hd : ∀ σ H, Pv z.length σ H → D.nx σ H) :
    ∃ W : Nat → Nat → L2.St → Hp → Prop, (∃ m, W 0 m σ H) ∧ ∀ i m σ H, W i m σ H → ((Its z).stop i H ∧ D.nx σ H) ∨
      ((Its z).go i H ∧ ∃ N : L2.St → Hp → Prop, (∀ σ' H', N σ' H' → ∃ m', m' < m ∧ W (i + 1) m' σ' H') ∧ ∀ x H', (Its z).yld i H x H' → g x σ H' fun σ2 H2 => tb { D with nx := N, ct := N, bk := D.nx } σ2 H2) := by
  refine ⟨fun i m σ H => m = z.length - i ∧ i ≤ z.length ∧ Pv i σ H, ⟨z.length, rfl, Nat.zero_le _, h0⟩, fun i m σ H ⟨em, hi, p⟩ => ?_⟩
  by_cases hlt : i < z.length
  · refine .inr ⟨hlt, Pv (i + 1), fun σ' H' p' => ⟨z.length - (i + 1), by omega, rfl, hlt, p'⟩, fun x H' ⟨e1, c, e2, e3⟩ => ?_⟩
    rw [e1, e3]
    exact hs i c σ H (by rw [Array.getElem?_toList]; exact e2) p
  · have e : i = z.length := by omega
    exact .inl ⟨Nat.le_of_not_lt hlt, hd σ H (e ▸ p)⟩
end My
namespace My
open PySem PySem.Spec PyProof.Rows L2
abbrev AL36 : Str := "abcdefghijklmnopqrstuvwxyz0123456789"
/-! ### the law's own look at words -/
def headL : List Nat → Bool
  | [] => false
  | c :: _ => decide (97 ≤ c) && decide (c ≤ 122)
def wordL (l : List Nat) : Bool := decide (1 ≤ l.length) && decide (l.length ≤ 12) && headL l && l.all (inS AL36)
def spIsWord : Sp := fun vs H Q _ => ∃ z : Str, vs = [.str z] ∧ z.length ≤ 100000 ∧ ∀ H', Same H H' → Q (.bl (wordL z.cps.toList)) H'
theorem low_one (c d : Nat) : (decide (([c] : List Nat) < [d])) = decide (c < d) := by
  refine decide_eq_decide.mpr ?_
  rw [List.cons_lt_cons_iff]
  constructor
  · rintro (h | ⟨_, h⟩)
    · exact h
    · exact absurd h (by simp)
  · exact .inl
theorem cps_a : ("a" : Str).cps.toList = [97] := by decide +kernel
theorem cps_z : ("z" : Str).cps.toList = [122] := by decide +kernel
theorem eqv_ones (n : Nat) : PyData.eqv (.list (List.replicate n (.int 1))) (.list []) = decide (n = 0) := by
  cases n with
  | zero => rfl
  | succ n =>
    show PyData.eqvAll (List.replicate (n + 1) (.int 1)) [] = _
    rw [List.replicate_succ]
    rfl
theorem dp_ones {K : PySem.W.Frag} {H : Hp} : ∀ n : Nat, DpAll K H (List.replicate n (V.int 1)) (List.replicate n (.int 1))
  | 0 => .nil
  | n + 1 => by
    rw [List.replicate_succ, List.replicate_succ]
    exact .cons (.int 1) (dp_ones n)
theorem shaped_list {ds : List PyData} (h : PyData.canLayAll0 ds = true) (k : PyData.depthAll ds ≤ 60) : SeqAt.shaped (.list ds) = true := by
  show (PyData.canLayAll0 ds && decide (PyData.depthAll ds + 1 ≤ 64)) = true
  rw [h, decide_eq_true (by omega : PyData.depthAll ds + 1 ≤ 64)]
  rfl
theorem shaped_ones (n : Nat) : SeqAt.shaped (.list (List.replicate n (.int 1))) = true := by
  have q : PyData.canLayAll0 (List.replicate n (.int 1)) = true ∧ PyData.depthAll (List.replicate n (.int 1)) = 0 := by
    induction n with
    | zero => exact ⟨rfl, rfl⟩
    | succ n ih =>
      rw [List.replicate_succ]
      refine ⟨?_, ?_⟩
      · show (true && PyData.canLayAll0 (List.replicate n (.int 1))) = true
        rw [ih.1]; rfl
      · show max 0 (PyData.depthAll (List.replicate n (.int 1))) = 0
        rw [ih.2]; rfl
  exact shaped_list q.1 (by rw [q.2]; decide)
def badL (l : List Nat) : Nat := (l.filter fun c => !inS AL36 c).length
theorem badL_zero (l : List Nat) : decide (badL l = 0) = l.all (inS AL36) := by
  rw [Bool.eq_iff_iff, decide_eq_true_iff, List.all_eq_true]
  unfold badL
  rw [List.length_eq_zero_iff, List.filter_eq_nil_iff]
  constructor
  · intro h c hc
    have := h c hc
    cases e : inS AL36 c with
    | true => rfl
    | false => rw [e] at this; exact absurd rfl this
  · intro h c hc
    rw [h c hc]
    exact Bool.false_ne_true
theorem bad_snoc {l : List Nat} {i c : Nat} (h : l[i]? = some c) : badL (l.take (i + 1)) = badL (l.take i) + (if inS AL36 c = true then 0 else 1) := by
  have hi : i < l.length := (List.getElem?_eq_some_iff.mp h).1
  have ec : l[i] = c := (List.getElem?_eq_some_iff.mp h).2
  unfold badL
  rw [List.take_succ_eq_append_getElem hi, List.filter_append, List.length_append, ec]
  congr 1
  cases e : inS AL36 c <;> simp [e]
section
variable {P : Program} {w : World} {K : PySem.W.Frag} {mg : Str → Option Value} {base : Heap}
theorem ok_is_word (T : Tx K mg) : FnOk P w K mg base CX0 1 T.a_law_is_word T.fd_law_is_word ["_law_value"] spIsWord := by
  refine T.F_law_is_word.ok sc_law_is_word (fun vs H Q E h => ?_) (fun cdv A outer st H vs Q E hr h => ?_)
  · obtain ⟨z, rfl, _⟩ := h
    rfl
  obtain ⟨z, rfl, hz, k⟩ := h
  refine ⟨_, ((pss_cons (ps_if (PW.pt (pw_or (pt_not (pt_val (pe_callB (show CallR _ (.builtin "isinstance") (rIsi K) from call_isi) (by rfl) T.n_isinstance (by decide +kernel) (pa_cons (pv 0) (pa_cons (pe_bltn (v := .ty "str") (by rfl) T.n_str (by decide +kernel) rfl) pa_nil))))) (pw_or (pt_not (pt_chain op_le op_le pe_int (pe_callB call_len_str (by rfl) T.n_len (by decide +kernel) (pa_cons (pv 0) pa_nil)) pe_int)) (pw_or1 (pt_not (pt_chain op_le_str op_le_str pe_str (pe_ix ix_str (pv 0) pe_int (fun _ _ => rfl)) pe_str))))))
        (pss_one (ps_ret pe_bl))
        pss_nil)
      (pss_one (ps_ret (pe_cmpR (op_eqD hr.units) (pe_lc (own := [("_law_sign", 1)]) (by rfl) sc_law_is_word.nd (pi_str (pv 0)) (blkOk_by (own := [("_law_sign", 1)]) (N := ["_law_value", "_law_sign"]) (sc := defScope s_law_is_word) (by decide +kernel)) (fun _ _ _ _ _ => pg_name (i := 1) sc_law_is_word.nd rfl (Or.inl rfl)) (fun _ _ _ _ _ => (pts_one (pt_cmpR op_notIn_sign (pv 1) pe_str (by rfl)))) (fun _ _ _ _ _ => pe_int)) (pe_lst pa_nil) (nomark _)))))), ?_⟩
  have no : ∀ b : Bool, b = wordL z.cps.toList → Q (.bl b) H := fun b e => by rw [e]; exact k H fun _ _ q => q
  refine ⟨_, rfl, .str z, .ty "str", .type "str", .type "str", true, rfl, .ty _, .base (.str z), kit_ty (r := true) (by decide +kernel), _, rfl, ?_⟩
  have e1 : wordL z.cps.toList = (decide (1 ≤ z.length) && decide (z.length ≤ 12) && headL z.cps.toList && z.cps.toList.all (inS AL36)) := by unfold wordL; rw [str_len]
  by_cases hl : 1 ≤ z.length
  · refine ⟨_, rfl, z, rfl, sz6 hz, _, _, rfl, rfl, _, rfl, ?_⟩
    rw [decide_eq_true (by omega : (1 : Int) ≤ (z.length : Int))]
    refine iteT ⟨_, _, rfl, rfl, _, rfl, ?_⟩
    by_cases h2 : z.length ≤ 12
    · rw [decide_eq_true (by omega : (z.length : Int) ≤ 12)]
      obtain ⟨c, ec, ed⟩ := get_at (z := z) (p := 0) hl
      have ez : z.cps.toList = c :: z.cps.toList.drop 1 := ed
      refine ⟨_, rfl, z, _, c, rfl, rfl, sz6 hz, ec, _, _, rfl, rfl, _, rfl, ?_⟩
      rw [cps_a, low_one]
      by_cases h3 : 97 ≤ c
      · rw [decide_eq_false (by omega : ¬ c < 97)]
        refine iteT ⟨_, _, rfl, rfl, _, rfl, ?_⟩
        rw [cps_z, low_one]
        by_cases h4 : c ≤ 122
        · rw [decide_eq_false (by omega : ¬ 122 < c)]
          show if false = true then _ else _
          refine iteF ?_
          have eh : headL z.cps.toList = true := by
            rw [ez]
            show (decide (97 ≤ c) && decide (c ≤ 122)) = true
            rw [decide_eq_true h3, decide_eq_true h4]
            rfl
          have ew : wordL z.cps.toList = decide (badL z.cps.toList = 0) := by
            rw [e1, decide_eq_true hl, decide_eq_true h2, eh, badL_zero]
            rfl
          refine ⟨_, rfl, z, rfl, fun D hD => ?_⟩
          refine lc_str (fun i M => Same H M ∧ M D = some (.lst (List.replicate (badL (z.cps.toList.take i)) (.int 1)))) ⟨same_new hD _, upd_same⟩ ?_ ?_
          · rintro i c' M hi ⟨sM, eM⟩
            have eb := bad_snoc hi
            have lb : badL (z.cps.toList.take i) ≤ 100000 := by
              have := List.length_filter_le (fun c => !inS AL36 c) (z.cps.toList.take i)
              rw [List.length_take, str_len] at this
              unfold badL
              omega
            refine ⟨rfl, _, rfl, c', AL36, rfl, rfl, _, rfl, ?_⟩
            have hc : decide (c' ∈ AL36.cps.toList) = inS AL36 c' := rfl
            rw [hc]
            cases hv : inS AL36 c' with
            | true =>
              rw [hv] at eb
              exact iteF ⟨sM, by rw [eb]; exact eM⟩
            | false =>
              rw [hv] at eb
              refine iteT ⟨_, eM, ?_, ?_, ?_⟩
              · rw [List.length_replicate, sizeLine_eq]; omega
              · intro b o e
                rw [upd_ne (ne_of_none e hD)]
                exact sM b o e
              · rw [upd_same, eb]
                exact congrArg (fun l => some (HO.lst l)) (List.replicate_succ' ..).symm
          · rintro M ⟨sM, eM⟩
            have ef : z.cps.toList.take z.length = z.cps.toList := by rw [← str_len, List.take_length]
            rw [ef] at eM
            refine ⟨Nat.zero_le _, fun p hp => ?_⟩
            have s2 := same_new hp (.lst [])
            refine ⟨_, _, Dp.lst (SqL.of (s2 _ _ eM)) (dp_ones _), Dp.lst (SqL.of upd_same) .nil, shaped_ones _, rfl, ?_⟩
            rw [eqv_ones, ← ew]
            exact k _ (sM.trans s2)
        · rw [decide_eq_true (by omega : 122 < c)]
          refine iteT (no false ?_)
          rw [e1, ez]
          show false = (_ && _ && (decide (97 ≤ c) && decide (c ≤ 122)) && _)
          rw [decide_eq_false h4, Bool.and_false, Bool.and_false, Bool.false_and]
      · rw [decide_eq_true (by omega : c < 97)]
        refine iteF ⟨_, rfl, no false ?_⟩
        rw [e1, ez]
        show false = (_ && _ && (decide (97 ≤ c) && decide (c ≤ 122)) && _)
        rw [decide_eq_false h3, Bool.false_and, Bool.and_false, Bool.false_and]
    · rw [decide_eq_false (by omega : ¬ (z.length : Int) ≤ 12)]
      refine no false ?_
      rw [e1, decide_eq_false h2, Bool.and_false, Bool.false_and, Bool.false_and]
  · refine ⟨_, rfl, z, rfl, sz6 hz, _, _, rfl, rfl, _, rfl, ?_⟩
    rw [decide_eq_false (by omega : ¬ (1 : Int) ≤ (z.length : Int))]
    refine iteF ⟨_, rfl, no false ?_⟩
    rw [e1, decide_eq_false hl, Bool.false_and, Bool.false_and, Bool.false_and]
end
end My
namespace My
open PySem PySem.Spec PyProof.Rows L2
/-! ### the law's own lexemes -/
def sortOf (t : Str) : Str := if t = "W" then "word" else if t = "N" then "number" else "sign"
/-- what stands at p: the end, no lexeme, a lexeme -/
structure LexSt (z : Str) (p : Nat) (tag tx : Str) : Prop where
  le : p ≤ z.length
  cases_ : (p = z.length ∧ tag = "END") ∨ (∃ c, p < z.length ∧ z.cps.toList.drop p = c :: z.cps.toList.drop (p + 1) ∧ inS BLK c = false ∧
    ((lexL (z.cps.toList.drop p) = none ∧ tag = "none") ∨ ∃ k n, lexL (z.cps.toList.drop p) = some (k, n) ∧ tag ≠ "END" ∧ tag ≠ "none" ∧ sortOf tag = k ∧ tx = txt ((z.cps.toList.drop p).take n)))
def spLexeme : Sp := fun vs H Q _ => ∃ (z : Str) (p : Nat), vs = [.str z, .int (p : Nat)] ∧ z.length ≤ 100000 ∧ p ≤ z.length ∧
  ∀ (a : Addr) (H' : Hp) (tag tx : Str), Same H H' → H a = none → LexSt z (p + runL (inS BLK) (z.cps.toList.drop p)) tag tx →
    H' a = some (.lst [.str tag, .str tx, .int ((p + runL (inS BLK) (z.cps.toList.drop p) : Nat) : Int)]) → Q (.ref a) H'
theorem scan_skip : ∀ (t : List Nat) (p : Nat), scan t p = scan (t.drop (runL (inS BLK) t)) (p + runL (inS BLK) t)
  | [], _ => rfl
  | c :: r, p => by
    cases h : inS BLK c with
    | true =>
      rw [scan_blank h, runL_yes h, scan_skip r (p + 1)]
      have e : p + 1 + runL (inS BLK) r = p + (runL (inS BLK) r + 1) := by omega
      rw [e]
      rfl
    | false => rw [runL_no h]; rfl
/-- behind a run no sign of it stands -/
theorem run_ends {q : Nat → Bool} : ∀ {t : List Nat} {c : Nat} {r : List Nat}, t.drop (runL q t) = c :: r → q c = false
  | [], c, r, h => by rw [runL_nil] at h; cases h
  | d :: t, c, r, h => by
    cases e : q d with
    | true =>
      rw [runL_yes e] at h
      exact run_ends (t := t) h
    | false =>
      rw [runL_no e] at h
      cases h
      exact e
theorem run_all {q : Nat → Bool} : ∀ t : List Nat, (t.take (runL q t)).all q = true
  | [] => rfl
  | d :: t => by
    cases e : q d with
    | true =>
      rw [runL_yes e, List.take_succ_cons, List.all_cons, e, run_all t]
      rfl
    | false => rw [runL_no e]; rfl
theorem dig_no_ltr {c : Nat} (h : inS DIG c = true) : inS LTR c = false := by
  have h : c ∈ DIG.cps.toList := of_decide_eq_true h
  have e : DIG.cps.toList = [48, 49, 50, 51, 52, 53, 54, 55, 56, 57] := by decide +kernel
  rw [e] at h
  simp only [List.mem_cons, List.not_mem_nil, or_false] at h
  rcases h with rfl | rfl | rfl | rfl | rfl | rfl | rfl | rfl | rfl | rfl <;> decide +kernel
theorem ltr_range {c : Nat} (h : inS LTR c = true) : 97 ≤ c ∧ c ≤ 122 := by
  have h : c ∈ LTR.cps.toList := of_decide_eq_true h
  have e : LTR.cps.toList = [97, 98, 99, 100, 101, 102, 103, 104, 105, 106, 107, 108, 109, 110, 111, 112, 113, 114, 115, 116, 117, 118, 119, 120, 121, 122] := by decide +kernel
  rw [e] at h
  simp only [List.mem_cons, List.not_mem_nil, or_false] at h
  omega
theorem al_same (c : Nat) : inS (LTR ++ DIG) c = inS AL36 c := by
  have e : LTR ++ DIG = AL36 := by decide +kernel
  rw [e]
/-- the run of letters and figures at c, where c is neither a sign nor a figure -/
theorem word_is {c : Nat} {r : List Nat} (h1 : inS SGN c = false) (h3 : inS DIG c = false) : lexL (c :: r) = if wordL ((c :: r).take (runL (inS (LTR ++ DIG)) (c :: r))) = true then some (("word" : Str), runL (inS (LTR ++ DIG)) (c :: r)) else none := by
  show lexC c r = _
  unfold lexC
  rw [h1, h3]
  cases h2 : inS LTR c with
  | false =>
    have e : inS (LTR ++ DIG) c = false := by rw [in_cat, h2, h3]; rfl
    rw [runL_no e]
    rfl
  | true =>
    have e : inS (LTR ++ DIG) c = true := by rw [in_cat, h2]; rfl
    have le := runL_le (inS (LTR ++ DIG)) (c :: r)
    have al := run_all (q := inS (LTR ++ DIG)) (c :: r)
    have n1 : runL (inS (LTR ++ DIG)) (c :: r) = runL (inS (LTR ++ DIG)) r + 1 := runL_yes e
    generalize hn : runL (inS (LTR ++ DIG)) (c :: r) = n at le al n1
    have ew : wordL ((c :: r).take n) = decide (n ≤ 12) := by
      have hl : ((c :: r).take n).length = n := by rw [List.length_take]; omega
      have hh : headL ((c :: r).take n) = true := by
        rw [n1, List.take_succ_cons]
        have ⟨a, b⟩ := ltr_range h2
        show (decide (97 ≤ c) && decide (c ≤ 122)) = true
        rw [decide_eq_true a, decide_eq_true b]
        rfl
      have ha : ((c :: r).take n).all (inS AL36) = true := by
        rw [List.all_eq_true] at al ⊢
        intro x hx
        rw [← al_same]
        exact al x hx
      unfold wordL
      rw [hl, hh, ha, decide_eq_true (by omega : 1 ≤ n)]
      cases decide (n ≤ 12) <;> rfl
    rw [ew]
    show (if n ≤ 12 then _ else _) = if decide (n ≤ 12) = true then _ else _
    by_cases h : n ≤ 12
    · rw [if_pos h, if_pos (decide_eq_true h)]
    · rw [if_neg h, if_neg (by rw [decide_eq_false h]; exact Bool.false_ne_true)]
theorem sign_tag {c : Nat} (h : inS SGN c = true) : (⟨#[c]⟩ : Str) ≠ "END" ∧ (⟨#[c]⟩ : Str) ≠ "none" ∧ sortOf ⟨#[c]⟩ = "sign" := by
  have h : c ∈ SGN.cps.toList := of_decide_eq_true h
  have e : SGN.cps.toList = [40, 41, 123, 125, 44, 59] := by decide +kernel
  rw [e] at h
  simp only [List.mem_cons, List.not_mem_nil, or_false] at h
  rcases h with rfl | rfl | rfl | rfl | rfl | rfl <;> decide +kernel
section
variable {P : Program} {w : World} {K : PySem.W.Frag} {mg : Str → Option Value} {base : Heap}
theorem ok_lexeme (T : Tx K mg) : FnOk P w K mg base CX0 2 T.a_law_lexeme T.fd_law_lexeme ["_law_text", "_law_place"] spLexeme := by
  refine T.F_law_lexeme.ok sc_law_lexeme (fun vs H Q E h => ?_) (fun cdv A outer st H vs Q E hr h => ?_)
  · obtain ⟨z, p, rfl, _⟩ := h
    rfl
  obtain ⟨z, p0, rfl, hz, hp0, k⟩ := h
  have G_law_run : FnOk P w K mg base CX0 1 T.a_law_run T.fd_law_run ["_law_text", "_law_place", "_law_signs"] spRun := ok_law_run T
  have hr_law_run : Room 1 _ := hr
  have G_law_is_word : FnOk P w K mg base CX0 1 T.a_law_is_word T.fd_law_is_word ["_law_value"] spIsWord := ok_is_word T
  have hr_law_is_word : Room 1 _ := hr
  refine ⟨_, ((pss_cons (ps_set (i := 2) sc_law_lexeme.nd rfl (Or.inl rfl) pe_str)
      (pss_cons (ps_set (i := 1) sc_law_lexeme.nd rfl (Or.inl rfl) (pe_call G_law_run hr_law_run rfl T.m_law_run T.F_law_run.kp T.b_law_run .nil pass0 (pa_cons (pv 0) (pa_cons (pv 1) (pa_cons pe_str pa_nil)))))
      (pss_cons (ps_if (pt_cmpR op_eq (pv 1) (pe_callB call_len_str (by rfl) T.n_len (by decide +kernel) (pa_cons (pv 0) pa_nil)) (nomark _))
        (pss_one (ps_ret (pe_lst (pa_cons pe_str (pa_cons pe_str (pa_cons (pv 1) pa_nil))))))
        pss_nil)
      (pss_cons (ps_if (pt_cmpR op_in_sign (pe_ix ix_str (pv 0) (pv 1) (fun _ _ => rfl)) pe_str (by rfl))
        (pss_one (ps_ret (pe_lst (pa_cons (pe_ix ix_str (pv 0) (pv 1) (fun _ _ => rfl)) (pa_cons (pe_ix ix_str (pv 0) (pv 1) (fun _ _ => rfl)) (pa_cons (pv 1) pa_nil))))))
        pss_nil)
      (pss_cons (ps_if (pt_cmpR op_in_sign (pe_ix ix_str (pv 0) (pv 1) (fun _ _ => rfl)) (pv 2) (by rfl))
        (pss_cons (ps_set (i := 3) sc_law_lexeme.nd rfl (Or.inl rfl) (pe_ifExp (pt_cmpR op_eq (pe_ix ix_str (pv 0) (pv 1) (fun _ _ => rfl)) pe_str (nomark _)) (pe_op op_add (pv 1) pe_int) (pe_call G_law_run hr_law_run rfl T.m_law_run T.F_law_run.kp T.b_law_run .nil pass0 (pa_cons (pv 0) (pa_cons (pv 1) (pa_cons (pv 2) pa_nil))))))
      (pss_one (ps_ret (pe_lst (pa_cons pe_str (pa_cons (pe_slice sl_str (pv 0) (po_some (pv 1)) (po_some (pv 3))) (pa_cons (pv 1) pa_nil)))))))
        pss_nil)
      (pss_cons (ps_set (i := 4) sc_law_lexeme.nd rfl (Or.inl rfl) (pe_slice sl_str (pv 0) (po_some (pv 1)) (po_some (pe_call G_law_run hr_law_run rfl T.m_law_run T.F_law_run.kp T.b_law_run .nil pass0 (pa_cons (pv 0) (pa_cons (pv 1) (pa_cons (pe_op op_add_str pe_str (pv 2)) pa_nil)))))))
      (pss_one (ps_ret (pe_ifExp (pt_val (pe_call G_law_is_word hr_law_is_word rfl T.m_law_is_word T.F_law_is_word.kp T.b_law_is_word .nil pass0 (pa_cons (pv 4) pa_nil))) (pe_lst (pa_cons pe_str (pa_cons (pv 4) (pa_cons (pv 1) pa_nil)))) (pe_lst (pa_cons pe_str (pa_cons pe_str (pa_cons (pv 1) pa_nil)))))))))))))), ?_⟩
  have lr := runL_le (inS BLK) (z.cps.toList.drop p0)
  rw [List.length_drop, str_len] at lr
  have ends : ∀ c r, z.cps.toList.drop (p0 + runL (inS BLK) (z.cps.toList.drop p0)) = c :: r → inS BLK c = false := fun c r e => by
    rw [← List.drop_drop] at e
    exact run_ends e
  refine ⟨_, rfl, _, rfl, z, BLK, p0, rfl, hz, hp0, ?_⟩
  generalize hp : p0 + runL (inS BLK) (z.cps.toList.drop p0) = p at k ends
  have hpl : p ≤ z.length := by omega
  have mk : ∀ (tag tx : Str), LexSt z p tag tx → ∀ a, H a = none → Q (.ref a) (L2.upd H a (.lst [.str tag, .str tx, .int (p : Nat)])) := fun tag tx st a ha => k a _ tag tx (same_new ha _) ha st upd_same
  refine ⟨_, rfl, _, rfl, z, rfl, sz6 hz, rfl, _, rfl, iteD (fun h => ?_) (fun h => ?_)⟩
  · refine ⟨_, rfl, (by show 3 ≤ sizeLine; decide), fun a ha => mk "END" "" ⟨hpl, .inl ⟨?_, rfl⟩⟩ a ha⟩
    have e := V.int.inj h
    omega
  have hlt : p < z.length := by
    rcases Nat.lt_or_ge p z.length with l | l
    · exact l
    · exact absurd (congrArg V.int (by omega : ((p : Nat) : Int) = (z.length : Int))) h
  obtain ⟨c, ec, ed⟩ := get_at hlt
  have hb := ends c _ ed
  have le : ∀ q, runL q (c :: z.cps.toList.drop (p + 1)) ≤ z.length - p := fun q => by
    have l := runL_le q (c :: z.cps.toList.drop (p + 1))
    rw [← ed, List.length_drop, str_len, ed] at l
    exact l
  have found : ∀ (kd : Str) (n : Nat) (tag tx : Str), lexL (z.cps.toList.drop p) = some (kd, n) → tag ≠ "END" → tag ≠ "none" → sortOf tag = kd → tx = txt ((z.cps.toList.drop p).take n) → LexSt z p tag tx :=
    fun kd n tag tx h1 h2 h3 h4 h5 => ⟨hpl, .inr ⟨c, hlt, ed, hb, .inr ⟨kd, n, h1, h2, h3, h4, h5⟩⟩⟩
  refine ⟨_, rfl, _, rfl, z, _, c, rfl, rfl, sz6 hz, ec, c, SGN, rfl, rfl, _, rfl, iteD (fun h1 => ?_) (fun h1 => ?_)⟩
  · have h1' : inS SGN c = true := decide_eq_true h1
    have ⟨t1, t2, t3⟩ := sign_tag h1'
    refine ⟨_, rfl, _, rfl, z, _, c, rfl, rfl, sz6 hz, ec, _, rfl, _, rfl, z, _, c, rfl, rfl, sz6 hz, ec, _, rfl, (by show 3 ≤ sizeLine; decide), fun a ha => mk _ _ (found "sign" 1 _ _ ?_ t1 t2 t3 ?_) a ha⟩
    · rw [ed]; show lexC c _ = _; unfold lexC; rw [if_pos h1']
    · rw [ed]; rfl
  have h1' : inS SGN c = false := decide_eq_false h1
  have fin : ∀ (n : Nat) (σ' : L2.St), n ≤ z.length - p → cutS z (some (p : Int)) (some ((p + n : Nat) : Int)) = txt ((z.cps.toList.drop p).take n) := fun n _ l => cut_at (by omega)
  refine ⟨_, rfl, _, rfl, z, _, c, rfl, rfl, sz6 hz, ec, _, rfl, c, DIG, rfl, rfl, _, rfl, iteD (fun h3 => ?_) (fun h3 => ?_)⟩
  · have h3' : inS DIG c = true := decide_eq_true h3
    have h2' : inS LTR c = false := dig_no_ltr h3'
    have lex3 : lexL (z.cps.toList.drop p) = some (("number" : Str), if c = 48 then 1 else runL (inS DIG) (c :: z.cps.toList.drop (p + 1))) := by
      rw [ed]
      show lexC c _ = _
      unfold lexC
      rw [h1', h2', h3', if_neg Bool.false_ne_true, if_neg Bool.false_ne_true, if_pos rfl]
    have sN : sortOf "N" = "number" := by decide +kernel
    refine ⟨_, rfl, _, rfl, z, _, c, rfl, rfl, sz6 hz, ec, rfl, _, rfl, iteD (fun h4 => ?_) (fun h4 => ?_)⟩
    · have e4 := of_zero h4
      have ep : ((p : Nat) : Int) + 1 = ((p + 1 : Nat) : Int) := by omega
      refine ⟨_, rfl, _, _, rfl, rfl, ?_⟩
      refine ⟨_, rfl, _, rfl, _, rfl, _, rfl, _, rfl, z, rfl, sz6 hz, ?_⟩
      have ect : cutS z (some (p : Int)) (some ((p : Nat) + 1 : Int)) = txt ((z.cps.toList.drop p).take 1) := by
        rw [ep]; exact fin 1 [] (by omega)
      refine ⟨_, rfl, (by show 3 ≤ sizeLine; decide), fun a ha => mk "N" _ (found "number" 1 "N" _ (by rw [lex3, if_pos e4]) (by decide +kernel) (by decide +kernel) sN ect) a ha⟩
    · have e4 : ¬ c = 48 := fun e => h4 (by rw [e]; decide +kernel)
      refine ⟨_, rfl, _, rfl, _, rfl, z, DIG, p, rfl, hz, hpl, ?_⟩
      have ln := le (inS DIG)
      rw [← ed] at ln lex3
      rw [if_neg e4] at lex3
      refine ⟨_, rfl, _, rfl, _, rfl, _, rfl, _, rfl, z, rfl, sz6 hz, ?_⟩
      exact ⟨_, rfl, (by show 3 ≤ sizeLine; decide), fun a ha => mk "N" _ (found "number" _ "N" _ lex3 (by decide +kernel) (by decide +kernel) sN (fin _ [] ln)) a ha⟩
  have h3' : inS DIG c = false := decide_eq_false h3
  have ln := le (inS (LTR ++ DIG))
  have wi := word_is (r := z.cps.toList.drop (p + 1)) h1' h3'
  rw [← ed] at wi ln
  refine ⟨_, rfl, _, rfl, _, rfl, _, rfl, _, rfl, _, rfl, _, _, rfl, rfl, (by show 26 + 10 ≤ sizeLine; decide), z, LTR ++ DIG, p, rfl, hz, hpl, _, rfl, z, rfl, sz6 hz, ?_⟩
  rw [fin _ [] ln]
  have ll : (txt ((z.cps.toList.drop p).take (runL (inS (LTR ++ DIG)) (z.cps.toList.drop p)))).length ≤ 100000 := by
    rw [txt_len, List.length_take, List.length_drop, str_len]; omega
  refine ⟨_, rfl, _, rfl, ll, fun H2 s2 => ?_⟩
  have mk2 : ∀ (tag tx : Str), LexSt z p tag tx → ∀ a, H2 a = none → Q (.ref a) (L2.upd H2 a (.lst [.str tag, .str tx, .int (p : Nat)])) := fun tag tx st a ha => k a _ tag tx (s2.trans (same_new ha _)) (s2.free ha) st upd_same
  have ew : (txt ((z.cps.toList.drop p).take (runL (inS (LTR ++ DIG)) (z.cps.toList.drop p)))).cps.toList = (z.cps.toList.drop p).take (runL (inS (LTR ++ DIG)) (z.cps.toList.drop p)) := rfl
  rw [ew]
  cases hw : wordL ((z.cps.toList.drop p).take (runL (inS (LTR ++ DIG)) (z.cps.toList.drop p))) with
  | true =>
    rw [hw, if_pos rfl] at wi
    exact ⟨_, rfl, iteT ⟨_, rfl, _, rfl, (by show 3 ≤ sizeLine; decide), fun a ha => mk2 "W" _ (found "word" _ "W" _ wi (by decide +kernel) (by decide +kernel) (by decide +kernel) rfl) a ha⟩⟩
  | false =>
    rw [hw, if_neg Bool.false_ne_true] at wi
    exact ⟨_, rfl, iteF ⟨_, rfl, (by show 3 ≤ sizeLine; decide), fun a ha => mk2 "none" "" ⟨hpl, .inr ⟨c, hlt, ed, hb, .inl ⟨wi, rfl⟩⟩⟩ a ha⟩⟩
end
end My
namespace My
open PySem PySem.Spec PyProof.Rows L2
def spDue : Sp := fun vs H Q _ => ∃ (z : Str), vs = [.str z] ∧ z.length ≤ 100000 ∧
  ((scan z.cps.toList 0).2 = none → ∀ (a b : Addr) (xs : List V) (H' : Hp), Same H H' → H a = none → H b = none → a ≠ b → H' a = some (.lst [.str "told", .ref b]) → H' b = some (.lst xs) → Tks H' xs (scan z.cps.toList 0).1 → Q (.ref a) H') ∧
  (∀ q, (scan z.cps.toList 0).2 = some q → ∀ (a : Addr) (H' : Hp), Same H H' → H a = none → H' a = some (.lst [.str "refused", .int (q : Nat)]) → Q (.ref a) H')
/-- the sorts by the tags -/
def sortsD : List (Key × V) := [(.inr "W", .str "word"), (.inr "N", .str "number")]
theorem sorts_made : mergeK [] sortsD = sortsD := by decide +kernel
theorem sorts_get (t : Str) : ((valV sortsD (Sum.inr t)).getD (.str "sign")) = V.str (sortOf t) := by
  unfold sortOf sortsD
  by_cases h1 : t = "W"
  · rw [if_pos h1, valV_pos (by rw [h1])]
    rfl
  · rw [if_neg h1, valV_neg (fun z => h1 (Sum.inr.inj z).symm)]
    by_cases h2 : t = "N"
    · rw [if_pos h2, valV_pos (by rw [h2])]
      rfl
    · rw [if_neg h2, valV_neg (fun z => h2 (Sum.inr.inj z).symm), valV_nil]
      rfl
/-- the place that the lexeme in slot 2 tells -/
def placeIn (σ : L2.St) (H : Hp) : Nat := match σ[2]? with
  | some (some (V.ref l)) => (match H l with
    | some (HO.lst [_, _, V.int q]) => q.toNat
    | _ => 0)
  | _ => 0
theorem at3 (x y q : V) : atI [x, y, q] (0 : Int) = some x ∧ atI [x, y, q] (1 : Int) = some y ∧ atI [x, y, q] (2 : Int) = some q := ⟨atI_nat (j := 0) rfl, atI_nat (j := 1) rfl, atI_nat (j := 2) rfl⟩
section
variable {P : Program} {w : World} {K : PySem.W.Frag} {mg : Str → Option Value} {base : Heap}
theorem ok_due (T : Tx K mg) : FnOk P w K mg base CX0 3 T.a_law_lexemes_due T.fd_law_lexemes_due ["_law_text"] spDue := by
  refine T.F_law_lexemes_due.ok sc_law_lexemes_due (fun vs H Q E h => ?_) (fun cdv A outer st H vs Q E hr h => ?_)
  · obtain ⟨z, rfl, _⟩ := h
    rfl
  obtain ⟨z, rfl, hz, kN, kE⟩ := h
  have hu := hu_of hr
  have G_law_lexeme : FnOk P w K mg base CX0 2 T.a_law_lexeme T.fd_law_lexeme ["_law_text", "_law_place"] spLexeme := ok_lexeme T
  have hr_law_lexeme : Room 2 _ := hr
  refine ⟨_, ((pss_cons (ps_par (i := 1) (j := 2) (by rfl) sc_law_lexemes_due.nd rfl rfl (by decide) rfl rfl (pa_cons (pe_lst pa_nil) (pa_cons (pe_call G_law_lexeme hr_law_lexeme rfl T.m_law_lexeme T.F_law_lexeme.kp T.b_law_lexeme .nil pass0 (pa_cons (pv 0) (pa_cons pe_int pa_nil))) pa_nil)) (by rfl))
      (pss_cons (ps_while PassesOwn.never (pt_cmpR op_ne (pe_ix ix_list (pv 2) pe_int (fun _ _ => rfl)) pe_str (nomark _))
        (pss_cons (ps_if (pt_cmpR op_eq (pe_ix ix_list (pv 2) pe_int (fun _ _ => rfl)) pe_str (nomark _))
        (pss_one (ps_ret (pe_lst (pa_cons pe_str (pa_cons (pe_ix ix_list (pv 2) pe_int (fun _ _ => rfl)) pa_nil)))))
        pss_nil)
      (pss_cons (ps_set (i := 3) sc_law_lexemes_due.nd rfl (Or.inl rfl) (pe_dget2 hu (m := ⟨rfl, rfl, rfl, rfl⟩) (pe_disp (pps_cons pe_str pe_str (pps_cons pe_str pe_str pps_nil)) (by rfl) (by rfl) (fun z => by cases z) (by decide)) (pe_ix ix_list (pv 2) pe_int (fun _ _ => rfl)) pe_str))
      (pss_cons (ps_expr (pe_bm PySem.F.plainAttrs_list PySem.F.slot_list_append PySem.F.type_list_append mt_append (pv 1) (pa_cons (pe_tup (pa_cons (pv 3) (pa_cons (pe_ix ix_list (pv 2) pe_int (fun _ _ => rfl)) (pa_cons (pe_ix ix_list (pv 2) pe_int (fun _ _ => rfl)) pa_nil)))) pa_nil)))
      (pss_one (ps_set (i := 2) sc_law_lexemes_due.nd rfl (Or.inl rfl) (pe_call G_law_lexeme hr_law_lexeme rfl T.m_law_lexeme T.F_law_lexeme.kp T.b_law_lexeme .nil pass0 (pa_cons (pv 0) (pa_cons (pe_op op_add (pe_ix ix_list (pv 2) pe_int (fun _ _ => rfl)) (pe_callB call_len_str (by rfl) T.n_len (by decide +kernel) (pa_cons (pe_ix ix_list (pv 2) pe_int (fun _ _ => rfl)) pa_nil))) pa_nil)))))))))
      (pss_one (ps_ret (pe_lst (pa_cons pe_str (pa_cons (pv 1) pa_nil)))))))), ?_⟩
  refine ⟨Nat.zero_le _, fun b hb => ?_⟩
  refine ⟨_, rfl, z, 0, rfl, hz, Nat.zero_le _, fun l0 H0 tag0 tx0 s0 hl0 st0 el0 => ⟨_, _, rfl, ?_⟩⟩
  refine while_b (fun σ M => ∃ (p : Nat) (l : Addr) (srt : Option V) (tag tx : Str) (xs : List V) (ts : List Tk), σ = [some (.str z), some (.ref b), some (.ref l), srt] ∧ Same H M ∧ M b = some (.lst xs) ∧ Tks M xs ts ∧ l ≠ b ∧
      M l = some (.lst [.str tag, .str tx, .int (p : Nat)]) ∧ LexSt z p tag tx ∧ ts.length ≤ p ∧ ts ++ (scan (z.cps.toList.drop p) p).1 = (scan z.cps.toList 0).1 ∧ (scan (z.cps.toList.drop p) p).2 = (scan z.cps.toList 0).2)
    (fun σ M => z.length - placeIn σ M) ?_ ?_
  · refine ⟨_, l0, none, tag0, tx0, [], [], rfl, (same_new hb _).trans s0, s0 _ _ upd_same, .nil, ?_, el0, st0, Nat.zero_le _, ?_, ?_⟩
    · exact fun z => by rw [z, upd_same] at hl0; cases hl0
    · show (scan _ _).1 = _
      have e := scan_skip (z.cps.toList.drop 0) 0
      rw [List.drop_drop] at e
      rw [← e]; rfl
    · have e := scan_skip (z.cps.toList.drop 0) 0
      rw [List.drop_drop] at e
      rw [← e]; rfl
  rintro σ M ⟨p, l, srt, tag, tx, xs, ts, rfl, sM, eb, tk, nlb, el, st, htp, e1, e2⟩
  have ⟨a0, a1, a2⟩ := at3 (.str tag) (.str tx) (.int (p : Nat))
  rcases st.cases_ with ⟨ep, et⟩ | ⟨c, hlt, ed, hbk, st⟩
  · -- the end
    refine ⟨false, fun Q' q => ⟨_, rfl, l, _, _, _, rfl, rfl, SqL.of el, a0, rfl, _, rfl, by rw [et]; exact q⟩, iteF ?_⟩
    have e0 : z.cps.toList.drop p = [] := List.drop_eq_nil_of_le (by rw [str_len]; omega)
    rw [e0, scan_nil] at e1 e2
    rw [List.append_nil] at e1
    refine ⟨_, rfl, (by show 2 ≤ sizeLine; decide), fun a ha => ?_⟩
    have s2 := same_new ha (.lst [.str "told", .ref b])
    exact kN e2.symm a b xs _ (sM.trans s2) (sM.free ha) hb (ne_of_none eb ha).symm upd_same (s2 _ _ eb) (by rw [← e1]; exact tk.same s2)
  · have nE : tag ≠ "END" := by
      rcases st with ⟨_, e⟩ | ⟨_, _, _, n, _⟩
      · rw [e]; decide +kernel
      · exact n
    refine ⟨true, fun Q' q => ⟨_, rfl, l, _, _, _, rfl, rfl, SqL.of el, a0, rfl, _, rfl, by rw [decide_eq_false (fun z => nE (V.str.inj z))]; exact q⟩, iteT ?_⟩
    rcases st with ⟨en, et⟩ | ⟨kd, n, en, _, nN, eS, etx⟩
    · refine ⟨_, rfl, l, _, _, _, rfl, rfl, SqL.of el, a0, rfl, _, rfl, ?_⟩
      rw [et]
      refine iteT ?_
      rw [ed] at en e1 e2
      rw [scan_none hbk en] at e1 e2
      refine ⟨_, rfl, l, _, _, _, rfl, rfl, SqL.of el, a2, (by show 2 ≤ sizeLine; decide), fun a ha => ?_⟩
      exact kE p e2.symm a _ (sM.trans (same_new ha _)) (sM.free ha) upd_same
    · refine ⟨_, rfl, l, _, _, _, rfl, rfl, SqL.of el, a0, rfl, _, rfl, ?_⟩
      rw [decide_eq_false (fun z => nN (V.str.inj z))]
      refine iteF ?_
      rw [ed] at en e1 e2
      rw [scan_some hbk en] at e1 e2
      have ⟨n1, n2⟩ := lexL_pos en
      rw [← ed] at en e1 e2 n2
      rw [List.length_drop, str_len] at n2
      have ltx : tx.length = n := by
        rw [etx, txt_len, List.length_take, List.length_drop, str_len]; omega
      intro pd hpd
      refine ⟨upd_same, sortsD, rfl, by decide, ?_⟩
      rw [sorts_made, upd_upd]
      have s3 := same_new hpd (.dK sortsD)
      have el3 := s3 _ _ el
      have eb3 := s3 _ _ eb
      refine ⟨pd, rfl, .inl ⟨_, .inl upd_same⟩, _, rfl, l, _, _, _, rfl, rfl, SqL.of el3, a0, _, DGet.k (k := Sum.inr tag) upd_same, ?_⟩
      rw [sorts_get, eS]
      refine ⟨_, rfl, .inl ⟨rfl, _, SqL.of eb3⟩, _, rfl, _, rfl, l, _, _, _, rfl, rfl, SqL.of el3, a1, _, rfl, l, _, _, _, rfl, rfl, SqL.of el3, a2, (by show 3 ≤ sizeLine; decide), fun a ha => ?_⟩
      have s4 := same_new ha (.tup [.str kd, .str tx, .int (p : Nat)])
      have el4 := s4 _ _ el3
      have eb4 := s4 _ _ eb3
      have etk : [V.str kd, .str tx, .int (p : Nat)] = tkV (kd, (z.cps.toList.drop p).take n, p) := by rw [etx]; rfl
      refine ⟨b, xs, _, rfl, rfl, eb4, ?_, ?_⟩
      · rw [tk.length]; exact Nat.lt_of_lt_of_le (by omega : ts.length < 100001) (by rw [sizeLine_eq]; decide)
      have el5 : L2.upd (L2.upd (L2.upd M pd (.dK sortsD)) a (.tup [.str kd, .str tx, .int (p : Nat)])) b (.lst (xs ++ [.ref a])) l = some (.lst [.str tag, .str tx, .int (p : Nat)]) := by
        rw [upd_ne nlb]; exact el4
      have ea5 : L2.upd (L2.upd (L2.upd M pd (.dK sortsD)) a (.tup [.str kd, .str tx, .int (p : Nat)])) b (.lst (xs ++ [.ref a])) a = some (.tup (tkV (kd, (z.cps.toList.drop p).take n, p))) := by
        rw [upd_ne (ne_of_none eb3 ha).symm, upd_same, etk]
      have tk5 := ((tk.same (s3.trans s4)).upd (o := .lst (xs ++ [.ref a])) eb4).snoc ea5
      refine ⟨_, rfl, _, rfl, l, _, _, _, rfl, rfl, SqL.of el5, a2, _, rfl, l, _, _, _, rfl, rfl, SqL.of el5, a1, tx, rfl, by rw [ltx]; exact sz6 (by omega), _, _, rfl, rfl, z, p + n, ?_, hz, by omega, fun l2 M2 tag2 tx2 s6 hl2 st2 el2 => ?_⟩
      · rw [ltx]; rfl
      have b6 := s6 _ _ (upd_same (H := L2.upd (L2.upd M pd (.dK sortsD)) a (.tup [.str kd, .str tx, .int (p : Nat)])) (a := b) (o := .lst (xs ++ [.ref a])))
      have lr := runL_le (inS BLK) (z.cps.toList.drop (p + n))
      rw [List.length_drop, str_len] at lr
      have sk := scan_skip (z.cps.toList.drop (p + n)) (p + n)
      rw [List.drop_drop] at sk
      rw [List.drop_drop, sk] at e1 e2
      refine ⟨⟨p + n + runL (inS BLK) (z.cps.toList.drop (p + n)), l2, some (.str kd), tag2, tx2, xs ++ [.ref a], ts ++ [(kd, (z.cps.toList.drop p).take n, p)], rfl, ?_, b6, tk5.same s6, ?_, el2, st2, ?_, ?_, e2⟩, ?_⟩
      · intro q u hq
        refine s6 _ _ ?_
        have q1 := sM _ _ hq
        rw [upd_ne (ne_of_none hq hb)]
        exact s4 _ _ (s3 _ _ q1)
      · exact fun e => by rw [e, upd_same] at hl2; cases hl2
      · rw [List.length_append]; show ts.length + 1 ≤ _; omega
      · rw [List.append_assoc, ← e1]; rfl
      · have f1 : placeIn [some (.str z), some (.ref b), some (.ref l2), some (.str kd)] M2 = p + n + runL (inS BLK) (z.cps.toList.drop (p + n)) := by
          show (match M2 l2 with
            | some (HO.lst [_, _, V.int q]) => q.toNat
            | _ => 0) = _
          rw [el2]
          rfl
        have f2 : placeIn [some (.str z), some (.ref b), some (.ref l), srt] M = p := by
          show (match M l with
            | some (HO.lst [_, _, V.int q]) => q.toNat
            | _ => 0) = _
          rw [el]
          rfl
        show z.length - placeIn [some (.str z), some (.ref b), some (.ref l2), some (.str kd)] M2 < z.length - placeIn [some (.str z), some (.ref b), some (.ref l), srt] M
        rw [f1, f2]
        omega
end
end My
namespace My
open PySem PySem.Spec PyProof.Rows L2
/-! ### lexemes one after another -/
def isAl (c : Nat) : Bool := inS (LTR ++ DIG) c
/-- a lexeme, by its signs -/
def isLx : List Nat → Bool
  | [] => false
  | c :: r => (inS SGN c && decide (r = [])) || (inS LTR c && r.all isAl && decide (r.length ≤ 11)) || (inS DIG c && decide (c = 48) && decide (r = [])) || (inS DIG c && !decide (c = 48) && r.all (inS DIG))
/-- what stands behind a lexeme x does not go on with it -/
def goesOn (x v : List Nat) : Bool := match x, v with
  | _, [] => false
  | [], _ => false
  | c :: _, d :: _ => (inS LTR c && isAl d) || (inS DIG c && !decide (c = 48) && inS DIG d)
theorem run_app {q : Nat → Bool} : ∀ {x v : List Nat}, x.all q = true → (∀ d r, v = d :: r → q d = false) → runL q (x ++ v) = x.length
  | [], [], _, _ => rfl
  | [], d :: r, _, h => runL_no (h d r rfl)
  | c :: x, v, ha, h => by
    rw [List.all_cons, Bool.and_eq_true] at ha
    show runL q (c :: (x ++ v)) = _
    rw [runL_yes ha.1, run_app ha.2 h]
    rfl
theorem sgn_no {c : Nat} (h : inS SGN c = true) : isAl c = false ∧ inS BLK c = false := by
  have h : c ∈ SGN.cps.toList := of_decide_eq_true h
  have e : SGN.cps.toList = [40, 41, 123, 125, 44, 59] := by decide +kernel
  rw [e] at h
  simp only [List.mem_cons, List.not_mem_nil, or_false] at h
  rcases h with rfl | rfl | rfl | rfl | rfl | rfl <;> exact ⟨by decide +kernel, by decide +kernel⟩
theorem al_list {c : Nat} (h : isAl c = true) : c ∈ AL36.cps.toList := by
  unfold isAl at h
  rw [al_same] at h
  exact of_decide_eq_true h
theorem al_all (p : Nat → Bool) (h : AL36.cps.toList.all p = true) {c : Nat} (hc : isAl c = true) : p c = true := (List.all_eq_true.mp h) c (al_list hc)
theorem al_no {c : Nat} (h : isAl c = true) : inS SGN c = false ∧ inS BLK c = false := by
  have q := al_all (fun c => !inS SGN c && !inS BLK c) (by decide +kernel) h
  rw [Bool.and_eq_true] at q
  exact ⟨by simpa using q.1, by simpa using q.2⟩
theorem blk_no {c : Nat} (h : inS BLK c = true) : isAl c = false ∧ inS DIG c = false := by
  have h : c ∈ BLK.cps.toList := of_decide_eq_true h
  have e : BLK.cps.toList = [32, 10] := by decide +kernel
  rw [e] at h
  simp only [List.mem_cons, List.not_mem_nil, or_false] at h
  rcases h with rfl | rfl <;> exact ⟨by decide +kernel, by decide +kernel⟩
theorem dig_al {c : Nat} (h : inS DIG c = true) : isAl c = true := by
  unfold isAl
  rw [in_cat, h, Bool.or_true]
theorem ltr_al {c : Nat} (h : inS LTR c = true) : isAl c = true := by
  unfold isAl
  rw [in_cat, h]
  rfl
theorem lx_cases {c : Nat} {r : List Nat} (h : isLx (c :: r) = true) : (inS SGN c = true ∧ r = []) ∨ (inS LTR c = true ∧ r.all isAl = true ∧ r.length ≤ 11) ∨ (inS DIG c = true ∧ c = 48 ∧ r = []) ∨ (inS DIG c = true ∧ ¬ c = 48 ∧ r.all (inS DIG) = true) := by
  unfold isLx at h
  rw [Bool.or_eq_true, Bool.or_eq_true, Bool.or_eq_true] at h
  rcases h with ((h | h) | h) | h
  · rw [Bool.and_eq_true, decide_eq_true_iff] at h; exact .inl h
  · rw [Bool.and_eq_true, Bool.and_eq_true, decide_eq_true_iff] at h; exact .inr (.inl ⟨h.1.1, h.1.2, h.2⟩)
  · rw [Bool.and_eq_true, Bool.and_eq_true, decide_eq_true_iff, decide_eq_true_iff] at h; exact .inr (.inr (.inl ⟨h.1.1, h.1.2, h.2⟩))
  · rw [Bool.and_eq_true, Bool.and_eq_true] at h
    refine .inr (.inr (.inr ⟨h.1.1, ?_, h.2⟩))
    have := h.1.2
    simpa using this
theorem lx_head {c : Nat} {r : List Nat} (h : isLx (c :: r) = true) : inS BLK c = false := by
  rcases lx_cases h with ⟨a, _⟩ | ⟨a, _⟩ | ⟨a, _⟩ | ⟨a, _⟩
  · exact (sgn_no a).2
  · exact (al_no (ltr_al a)).2
  · exact (al_no (dig_al a)).2
  · exact (al_no (dig_al a)).2
def kindL : List Nat → Str
  | [] => ""
  | c :: _ => if inS SGN c = true then "sign" else if inS LTR c = true then "word" else "number"
/-- a lexeme is read as itself where it is not gone on with -/
theorem lex_app {c : Nat} {r v : List Nat} (h : isLx (c :: r) = true) (g : goesOn (c :: r) v = false) : lexL (c :: (r ++ v)) = some (kindL (c :: r), (c :: r).length) := by
  show lexC c (r ++ v) = some (if inS SGN c = true then ("sign" : Str) else if inS LTR c = true then "word" else "number", _)
  unfold lexC
  have nx : ∀ d t, v = d :: t → (inS LTR c && isAl d) = false ∧ (inS DIG c && !decide (c = 48) && inS DIG d) = false := fun d t e => by
    rw [e] at g
    exact Bool.or_eq_false_iff.mp g
  rcases lx_cases h with ⟨a, e⟩ | ⟨a, b, l⟩ | ⟨a, b, e⟩ | ⟨a, b, l⟩
  · rw [if_pos a, if_pos a, e]
    rfl
  · have al := ltr_al a
    have q : runL (inS (LTR ++ DIG)) ((c :: r) ++ v) = (c :: r).length := run_app (by
      rw [List.all_cons, Bool.and_eq_true]
      exact ⟨al, b⟩) fun d t e => by
        have z := (nx d t e).1
        rw [a, Bool.true_and] at z
        exact z
    have q' : runL (inS (LTR ++ DIG)) (c :: (r ++ v)) = r.length + 1 := q
    rw [if_neg (by rw [(al_no al).1]; exact Bool.false_ne_true), if_pos a, q', if_pos (by omega), if_neg (by rw [(al_no al).1]; exact Bool.false_ne_true), if_pos a]
    rfl
  · rw [if_neg (by rw [(al_no (dig_al a)).1]; exact Bool.false_ne_true), if_neg (by rw [dig_no_ltr a]; exact Bool.false_ne_true), if_pos a, if_pos b, e, if_neg (by rw [(al_no (dig_al a)).1]; exact Bool.false_ne_true), if_neg (by rw [dig_no_ltr a]; exact Bool.false_ne_true)]
    rfl
  · have q : runL (inS DIG) ((c :: r) ++ v) = (c :: r).length := run_app (by
      rw [List.all_cons, Bool.and_eq_true]
      exact ⟨a, l⟩) fun d t e => by
        have z := (nx d t e).2
        rw [a, decide_eq_false b] at z
        exact z
    have q' : runL (inS DIG) (c :: (r ++ v)) = r.length + 1 := q
    rw [if_neg (by rw [(al_no (dig_al a)).1]; exact Bool.false_ne_true), if_neg (by rw [dig_no_ltr a]; exact Bool.false_ne_true), if_pos a, if_neg b, q', if_neg (by rw [(al_no (dig_al a)).1]; exact Bool.false_ne_true), if_neg (by rw [dig_no_ltr a]; exact Bool.false_ne_true)]
    rfl
theorem scan_gap : ∀ {g : List Nat} (v : List Nat) (p : Nat), g.all (inS BLK) = true → scan (g ++ v) p = scan v (p + g.length)
  | [], v, p, _ => rfl
  | c :: g, v, p, h => by
    rw [List.all_cons, Bool.and_eq_true] at h
    show scan (c :: (g ++ v)) p = _
    rw [scan_blank h.1, scan_gap v (p + 1) h.2]
    have e : p + 1 + g.length = p + (c :: g).length := by rw [List.length_cons]; omega
    rw [e]
theorem scan_lx {x v : List Nat} {p : Nat} (h : isLx x = true) (g : goesOn x v = false) : scan (x ++ v) p = ((kindL x, x, p) :: (scan v (p + x.length)).1, (scan v (p + x.length)).2) := by
  cases x with
  | nil => cases h
  | cons c r =>
    have e := lex_app h g
    show scan (c :: (r ++ v)) p = _
    rw [scan_some (lx_head h) e]
    have e1 : (c :: (r ++ v)).take (c :: r).length = c :: r := by
      show ((c :: r) ++ v).take _ = _
      rw [List.take_left']
      rfl
    have e2 : (c :: (r ++ v)).drop (c :: r).length = v := by
      show ((c :: r) ++ v).drop _ = _
      rw [List.drop_left']
      rfl
    rw [e1, e2]
/-- behind U, whose last lexeme is x, all goes on as if it began there; U's lexemes are ws -/
structure Reads6 (U : List Nat) (ws : List (List Nat)) (x : List Nat) : Prop where
  lx : isLx x = true
  go : ∃ ts : List Tk, ts.map (·.2.1) = ws ∧ ∀ v, goesOn x v = false → scan (U ++ v) 0 = (ts ++ (scan v U.length).1, (scan v U.length).2)
theorem reads6_nil {g : List Nat} (h : g.all (inS BLK) = true) : Reads6 g [] [40] := ⟨by decide +kernel, [], rfl, fun v _ => by
  rw [scan_gap v 0 h, Nat.zero_add]
  rfl⟩
theorem goes_gap {x g v : List Nat} (h : g.all (inS BLK) = true) (n : g ≠ []) : goesOn x (g ++ v) = false := by
  cases g with
  | nil => exact absurd rfl n
  | cons d t =>
    rw [List.all_cons, Bool.and_eq_true] at h
    have ⟨a, b⟩ := blk_no h.1
    cases x with
    | nil => rfl
    | cons c r =>
      show ((inS LTR c && isAl d) || (inS DIG c && !decide (c = 48) && inS DIG d)) = false
      rw [a, b, Bool.and_false, Bool.and_false]
      rfl
theorem Reads6.step {U : List Nat} {ws : List (List Nat)} {x y g : List Nat} (h : Reads6 U ws x) (hg : g.all (inS BLK) = true) (hy : isLx y = true) (hn : g ≠ [] ∨ ∀ v, goesOn x (y ++ v) = false) : Reads6 (U ++ g ++ y) (ws ++ [y]) y := by
  obtain ⟨ts, e, go⟩ := h.go
  refine ⟨hy, ts ++ [(kindL y, y, U.length + g.length)], ?_, fun v hv => ?_⟩
  · rw [List.map_append, e]; rfl
  · have q : goesOn x (g ++ (y ++ v)) = false := by
      rcases hn with n | n
      · exact goes_gap hg n
      · cases g with
        | nil => exact n v
        | cons d t => exact goes_gap hg (List.cons_ne_nil _ _)
    have l : (U ++ g ++ y).length = U.length + g.length + y.length := by rw [List.length_append, List.length_append]
    rw [List.append_assoc, List.append_assoc, go _ q, scan_gap _ _ hg, scan_lx hy hv, l, List.append_assoc]
    rfl
end My
namespace My
open PySem PySem.Spec PyProof.Rows L2
theorem lx_al {c : Nat} {r : List Nat} (h : isLx (c :: r) = true) (hc : isAl c = true) : (c :: r).all isAl = true := by
  rw [List.all_cons, hc, Bool.true_and]
  rcases lx_cases h with ⟨a, e⟩ | ⟨a, b, l⟩ | ⟨a, b, e⟩ | ⟨a, b, l⟩
  · rw [e]; rfl
  · exact b
  · rw [e]; rfl
  · rw [List.all_eq_true] at l ⊢
    exact fun x hx => dig_al (l x hx)
theorem alnum_of {l : List Nat} (h : l.all isAl = true) (n : l ≠ []) : Txt.isalnum (txt l) = true := by
  have h1 : decide ((txt l).length > 0) = true := by
    rw [txt_len]
    exact decide_eq_true (List.length_pos_iff.mpr n)
  have h2 : l.toArray.all Unicode.isAlnum = true := by
    rw [List.all_toArray, List.all_eq_true]
    intro x hx
    exact al_all Unicode.isAlnum (by decide +kernel) ((List.all_eq_true.mp h) x hx)
  show (decide ((txt l).length > 0) && l.toArray.all Unicode.isAlnum) = true
  rw [h1, h2]
  rfl
theorem digit_head {c : Nat} {r : List Nat} (h : Txt.isdigit (txt (c :: r)) = true) : Unicode.isDigit c = true := by
  have h2 : (decide ((txt (c :: r)).length > 0) && (c :: r).toArray.all Unicode.isDigit) = true := h
  rw [Bool.and_eq_true, List.all_toArray, List.all_cons, Bool.and_eq_true] at h2
  exact h2.2.1
theorem digit_one {c : Nat} (h : Txt.isdigit (txt [c]) = false) : Unicode.isDigit c = false := by
  have h1 : decide ((txt [c]).length > 0) = true := rfl
  have h2 : (decide ((txt [c]).length > 0) && [c].toArray.all Unicode.isDigit) = false := h
  rw [h1, Bool.true_and, List.all_toArray, List.all_cons, List.all_nil, Bool.and_true] at h2
  exact h2
theorem ltr_all (p : Nat → Bool) (h : LTR.cps.toList.all p = true) {c : Nat} (hc : inS LTR c = true) : p c = true := (List.all_eq_true.mp h) c (of_decide_eq_true hc)
theorem dig_all (p : Nat → Bool) (h : DIG.cps.toList.all p = true) {c : Nat} (hc : inS DIG c = true) : p c = true := (List.all_eq_true.mp h) c (of_decide_eq_true hc)
theorem no_go {x y : List Nat} (hx : isLx x = true) (hy : isLx y = true) (h : Txt.isalnum (txt x ++ txt y) = false ∨ txt x = "0" ∨ (Txt.isdigit (txt x) = true ∧ ∀ d t, y = d :: t → Txt.isdigit (txt [d]) = false)) (v : List Nat) : goesOn x (y ++ v) = false := by
  cases x with
  | nil => cases hx
  | cons c r =>
    cases y with
    | nil => cases hy
    | cons d t =>
      show ((inS LTR c && isAl d) || (inS DIG c && !decide (c = 48) && inS DIG d)) = false
      rcases h with h | h | ⟨h1, h2⟩
      · cases e1 : isAl c with
        | false =>
          have a : inS LTR c = false := by
            cases e : inS LTR c with
            | false => rfl
            | true => rw [ltr_al e] at e1; cases e1
          have b : inS DIG c = false := by
            cases e : inS DIG c with
            | false => rfl
            | true => rw [dig_al e] at e1; cases e1
          rw [a, b]
          rfl
        | true =>
          cases e2 : isAl d with
          | false =>
            have b : inS DIG d = false := by
              cases e : inS DIG d with
              | false => rfl
              | true => rw [dig_al e] at e2; cases e2
            rw [b, Bool.and_false, Bool.and_false]
            rfl
          | true =>
            have q : Txt.isalnum (txt ((c :: r) ++ (d :: t))) = true := alnum_of (by rw [List.all_append, lx_al hx e1, lx_al hy e2]; rfl) (by simp)
            have e : txt (c :: r) ++ txt (d :: t) = txt ((c :: r) ++ (d :: t)) := by
              show (⟨(c :: r).toArray ++ (d :: t).toArray⟩ : Str) = ⟨((c :: r) ++ (d :: t)).toArray⟩
              rw [List.append_toArray]
            rw [e, q] at h
            cases h
      · have e0 : ("0" : Str) = txt [48] := by decide +kernel
        rw [e0] at h
        have e1 : (c :: r).toArray = [48].toArray := congrArg Str.cps h
        have e2 : (c :: r) = [48] := congrArg Array.toList e1
        have e3 : c = 48 := (List.cons.inj e2).1
        rw [e3]
        have a : inS LTR 48 = false := by decide +kernel
        rw [a]
        have b : (!decide ((48 : Nat) = 48)) = false := rfl
        rw [b, Bool.and_false]
        rfl
      · have a := digit_head h1
        have b := digit_one (h2 d t rfl)
        have c1 : inS LTR c = false := by
          cases e : inS LTR c with
          | false => rfl
          | true =>
            have q := ltr_all (fun c => !Unicode.isDigit c) (by decide +kernel) e
            rw [a] at q
            cases q
        have d1 : inS DIG d = false := by
          cases e : inS DIG d with
          | false => rfl
          | true =>
            have q := dig_all Unicode.isDigit (by decide +kernel) e
            rw [b] at q
            cases q
        rw [c1, d1, Bool.and_false]
        rfl
theorem tw0 {p : Nat → Bool} : ∀ {l : List Nat}, (∀ c ∈ l, p c = false) → (l.takeWhile p).length = 0
  | [], _ => rfl
  | c :: r, h => by rw [List.takeWhile_cons, h c List.mem_cons_self]; rfl
/-- a text without ^ keeps itself -/
theorem no_strip {z : Str} (h : ∀ c ∈ z.cps.toList, c ≠ 94) : Txt.stripChars z "^" = z := by
  have e1 : ("^" : Str).cps = #[94] := by decide +kernel
  have g : ∀ c, c ≠ 94 → ("^" : Str).cps.contains c = false := fun c n => by
    rw [e1]
    simp [n]
  have l0 : stripLo ("^" : Str).cps.contains true z = 0 := tw0 fun c hc => g c (h c hc)
  have h0 : stripHi ("^" : Str).cps.contains true z (stripLo ("^" : Str).cps.contains true z) = z.length := by
    rw [l0]
    show z.length - ((z.cps.toList.drop 0).reverse.takeWhile ("^" : Str).cps.contains).length = z.length
    rw [tw0 fun c hc => g c (h c (by simpa using hc))]
    rfl
  have s : stripSame ("^" : Str).cps.contains true true z = true := by
    show (stripLo _ true z == 0 && stripHi _ true z (stripLo _ true z) == z.length) = true
    rw [h0, l0]
    simp
  show (if stripSame ("^" : Str).cps.contains true true z = true then z else _) = z
  rw [if_pos s]
end My
namespace My
open PySem PySem.Spec PyProof.Rows L2
section
variable {P : Program} {w : World} {K : PySem.W.Frag} {mg : Str → Option Value} {base : Heap}
theorem max1 {n : Int} (h : 1 ≤ n) : (if n > 1 then n else 1) = n := by
  by_cases e : n > 1
  · rw [if_pos e]
  · rw [if_neg e]; omega
/-- the number of cells that are left -/
def cellsLeft (c : Addr) (H : Hp) : Nat := match H c with
  | some (.lst xs) => xs.length
  | _ => 0
theorem ok_pick (T : Tx K mg) : FnOk P w K mg base CX0 1 T.a_law_pick T.fd_law_pick ["_law_source_here", "_law_many"] spPick := by
  refine T.F_law_pick.ok sc_law_pick (fun vs H Q E h => ?_) (fun cdv A outer st H vs Q E hr h => ?_)
  · obtain ⟨s, c, n, rfl, _⟩ := h
    rfl
  obtain ⟨s, c, n, rfl, hS, h1, h2, k⟩ := h
  have hu := hu_of hr
  refine ⟨_, ((pss_cons (ps_while PassesOwn.never (PW.pt (pw_and (pt_cmpR op_gt (pv 1) pe_int (nomark _)) (pw_and (pt_cmpR op_lt (pe_dget hu (pv 0) pe_str (fun _ _ => rfl)) pe_int (nomark _)) (pw_and1 (pt_cmpR op_gt (pe_callB call_len_seq (by rfl) T.n_len (by decide +kernel) (pa_cons (pe_dget hu (pv 0) pe_str (fun _ _ => rfl)) pa_nil)) pe_int (nomark _))))))
        (pss_one (ps_dput hu (pv 0) pe_str (pe_bm0 PySem.F.plainAttrs_list PySem.F.slot_list_pop PySem.F.type_list_pop mt_pop (pe_dget hu (pv 0) pe_str (fun _ _ => rfl))) rfl)))
      (pss_cons (ps_set (i := 2) sc_law_pick.nd rfl (Or.inl rfl) (pe_dget hu (pv 0) pe_str (fun _ _ => rfl)))
      (pss_cons (ps_if (PW.pt (pw_or (pt_cmpR op_lt (pv 1) pe_int (nomark _)) (pw_or1 (pt_cmpR op_gt (pv 2) pe_int (nomark _)))))
        (pss_cons (ps_dput hu (pv 0) pe_str (pe_op op_fdiv (pv 2) (pe_callB (call_max2 rfl) (by rfl) T.n_max (by decide +kernel) (pa_cons pe_int (pa_cons (pv 1) pa_nil)))) rfl)
      (pss_one (ps_ret (pe_op op_mod (pe_callTy call_int1 (by rfl) T.n_int (by decide +kernel) (pa_cons (pv 2) pa_nil)) (pe_callB (call_max2 rfl) (by rfl) T.n_max (by decide +kernel) (pa_cons pe_int (pa_cons (pv 1) pa_nil)))))))
        pss_nil)
      (pss_cons (ps_dput hu (pv 0) pe_str (pe_op op_add (pe_dget hu (pv 0) pe_str (fun _ _ => rfl)) pe_int) rfl)
      (pss_cons (ps_set (i := 3) sc_law_pick.nd rfl (Or.inl rfl) (pe_op op_mod (pe_callTy call_int1 (by rfl) T.n_int (by decide +kernel) (pa_cons (pe_op op_add (pe_dget hu (pv 0) pe_str (fun _ _ => rfl)) (pe_op op_mul (pe_dget hu (pv 0) pe_str (fun _ _ => rfl)) pe_int)) pa_nil)) pe_int))
      (pss_cons (ps_set (i := 3) sc_law_pick.nd rfl (Or.inl rfl) (pe_op op_mod (pe_callTy call_int1 (by rfl) T.n_int (by decide +kernel) (pa_cons (pe_op op_add (pe_op op_mul (pv 3) (pv 3)) (pe_op op_mul (pe_dget hu (pv 0) pe_str (fun _ _ => rfl)) pe_int)) pa_nil)) pe_int))
      (pss_cons (ps_dput hu (pv 0) pe_str (pv 3) rfl)
      (pss_one (ps_ret (pe_op op_mod (pe_callTy call_int1 (by rfl) T.n_int (by decide +kernel) (pa_cons (pe_op op_fdiv (pv 3) pe_int) pa_nil)) (pv 1)))))))))))), ?_⟩
  -- the while
  refine while_b (fun σ H' => σ = [some (.ref s), some (.int n), none, none] ∧ Go s c H H') (fun _ H' => cellsLeft c H') ⟨rfl, Go.refl hS⟩ ?_
  rintro σ H1 ⟨rfl, g⟩
  obtain ⟨l, m, t, ns, S⟩ := id g.src
  have gs : ∀ (x : Str) (v : V), valV (srcD c l m t) (Sum.inr x) = some v → DGet H1 s (.str x) (some v) := fun x v e => by
    rw [← e]
    exact DGet.k (k := Sum.inr x) S.hs
  by_cases hw : 1 < n ∧ l < 2 ∧ ns ≠ []
  · obtain ⟨w1, w2, w3⟩ := hw
    refine ⟨true, fun Q' q => ?_, ?_⟩
    · refine ⟨_, rfl, _, _, rfl, rfl, _, rfl, iteD (fun _ => ?_) (fun z => absurd w1 z)⟩
      refine ⟨_, rfl, s, _, rfl, gs "left" _ (get_left _ _ _ _), _, _, rfl, rfl, _, rfl, iteD (fun _ => ?_) (fun z => absurd w2 z)⟩
      refine ⟨_, rfl, s, _, rfl, gs "cells" _ (get_cells _ _ _ _), c, _, rfl, .inl (SqL.of S.hc), _, _, rfl, rfl, _, rfl, ?_⟩
      have e : decide ((0 : Int) < (((ns.map V.int).length : Nat) : Int)) = true := by
        rw [List.length_map]
        cases ns with
        | nil => exact absurd rfl w3
        | cons a r => exact decide_eq_true (by rw [List.length_cons]; omega)
      rw [e]
      exact q
    · refine iteT ?_
      have hlast : ∃ (y : Int), (ns.map V.int)[(ns.map V.int).length - 1]? = some (.int y) ∧ 0 ≤ y := by
        have hp : 0 < ns.length := List.length_pos_iff.mpr w3
        refine ⟨ns[ns.length - 1], ?_, S.n0 _ (List.getElem_mem _)⟩
        rw [List.length_map, List.getElem?_map, List.getElem?_eq_getElem (by omega)]
        rfl
      obtain ⟨y, ey, y0⟩ := hlast
      have hsc : s ≠ c := S.ne
      refine ⟨_, rfl, s, _, rfl, gs "cells" _ (get_cells _ _ _ _), .inl ⟨rfl, _, SqL.of S.hc⟩, c, _, _, rfl, rfl, S.hc, ey, ?_⟩
      refine ⟨_, rfl, s, _, rfl, DPut.k (k := Sum.inr "left") (kvs := srcD c l m t) (by rw [upd_ne hsc]; exact S.hs) (by show 4 < sizeLine; decide), ?_⟩
      rw [put_left]
      have S2 : SrcL (upd (upd H1 c (.lst (ns.map V.int).dropLast)) s (.dK (srcD c y m t))) s c y m t ns.dropLast :=
        ⟨upd_same, by rw [upd_ne hsc.symm, upd_same, List.map_dropLast], y0, S.m0, S.m1, S.t0, fun n h => S.n0 n (List.dropLast_subset _ h), by rw [List.length_dropLast]; have := S.len; omega⟩
      refine ⟨⟨rfl, ⟨fun a o h1 h2 e => ?_, _, _, _, _, S2⟩⟩, ?_⟩
      · rw [upd_ne h1, upd_ne h2]
        exact g.keep a o h1 h2 e
      · show cellsLeft c _ < cellsLeft c _
        unfold cellsLeft
        rw [S2.hc, S.hc]
        show (ns.dropLast.map V.int).length < (ns.map V.int).length
        rw [List.length_map, List.length_map, List.length_dropLast]
        have hp : 0 < ns.length := List.length_pos_iff.mpr w3
        omega
  · refine ⟨false, fun Q' q => ?_, iteF ?_⟩
    · refine ⟨_, rfl, _, _, rfl, rfl, _, rfl, iteD (fun w1 => ?_) (fun _ => q)⟩
      refine ⟨_, rfl, s, _, rfl, gs "left" _ (get_left _ _ _ _), _, _, rfl, rfl, _, rfl, iteD (fun w2 => ?_) (fun _ => q)⟩
      refine ⟨_, rfl, s, _, rfl, gs "cells" _ (get_cells _ _ _ _), c, _, rfl, .inl (SqL.of S.hc), _, _, rfl, rfl, _, rfl, ?_⟩
      have e0 : ns = [] := by
        cases e : ns with
        | nil => rfl
        | cons a r => exact absurd ⟨w1, w2, by rw [e]; exact List.cons_ne_nil _ _⟩ hw
      have e : decide ((0 : Int) < (((ns.map V.int).length : Nat) : Int)) = false := by
        rw [e0]
        rfl
      rw [e]
      exact q
    -- behind the while
    refine ⟨_, rfl, s, _, rfl, gs "left" _ (get_left _ _ _ _), ?_⟩
    have put : ∀ (l' m' t' : Int), 0 ≤ l' → 0 ≤ m' → m' < 4294967296 → 0 ≤ t' → ∀ H2, Go s c H H2 → (∀ b, b ≠ s → H2 b = H1 b) → SrcL (upd H2 s (.dK (srcD c l' m' t'))) s c l' m' t' ns ∧ Go s c H (upd H2 s (.dK (srcD c l' m' t'))) := fun l' m' t' a1 a2 a3 a4 H2 g2 e2 => by
      have S3 : SrcL (upd H2 s (.dK (srcD c l' m' t'))) s c l' m' t' ns := ⟨upd_same, by rw [upd_ne S.ne.symm, e2 _ S.ne.symm]; exact S.hc, a1, a2, a3, a4, S.n0, S.len⟩
      refine ⟨S3, fun a o h1 h2 e => ?_, _, _, _, _, S3⟩
      rw [upd_ne h1]
      exact g2.keep a o h1 h2 e
    have sz : (srcD c l m t).length < sizeLine := by show 4 < sizeLine; decide
    -- if many < 2 or left > 1
    refine ⟨_, rfl, _, _, rfl, rfl, _, rfl, iteD (fun c1 => ?ga) (fun c1 => ⟨_, rfl, _, _, rfl, rfl, _, rfl, iteD (fun c2 => ?gb) (fun c2 => ?gc)⟩)⟩
    case gc =>
      -- the mixed number
      have S2 := put l m (t + 1) S.l0 S.m0 S.m1 (by have := S.t0; omega) H1 g (fun _ _ => rfl)
      refine ⟨_, rfl, s, _, rfl, gs "turn" _ (get_turn _ _ _ _), _, _, rfl, rfl, _, rfl, s, _, rfl, DPut.k (k := Sum.inr "turn") S.hs sz, ?_⟩
      rw [put_turn]
      have gs2 : ∀ (x : Str) (v : V), valV (srcD c l m (t + 1)) (Sum.inr x) = some v → DGet (upd H1 s (.dK (srcD c l m (t + 1)))) s (.str x) (some v) := fun x v e => by
        rw [← e]
        exact DGet.k (k := Sum.inr x) upd_same
      refine ⟨_, rfl, s, _, rfl, gs2 "mixed" _ (get_mixed _ _ _ _), _, rfl, s, _, rfl, gs2 "turn" _ (get_turn _ _ _ _), _, _, rfl, rfl, .inr ⟨by decide, by decide⟩, _, _, rfl, rfl, .inl ⟨_, rfl, _, _, rfl, rfl, (by show (0 : Int) < 998244353; decide), ?_⟩⟩
      generalize hm : (m + (t + 1) * 104729) % 998244353 = m1
      have hm0 : 0 ≤ m1 ∧ m1 < 998244353 := by rw [← hm]; omega
      refine ⟨_, rfl, _, rfl, _, _, rfl, rfl, .inl ⟨by omega, by omega⟩, _, rfl, s, _, rfl, gs2 "turn" _ (get_turn _ _ _ _), _, _, rfl, rfl, .inr ⟨by decide, by decide⟩, _, _, rfl, rfl, .inl ⟨_, rfl, _, _, rfl, rfl, (by show (0 : Int) < 2147483647; decide), ?_⟩⟩
      generalize hn : (m1 * m1 + (t + 1) * 17) % 2147483647 = m2
      have hn0 : 0 ≤ m2 ∧ m2 < 2147483647 := by rw [← hn]; omega
      refine ⟨_, rfl, _, rfl, s, _, rfl, DPut.k (k := Sum.inr "mixed") S2.1.hs (by show 4 < sizeLine; decide), ?_⟩
      rw [put_mixed]
      have S3 := put l m2 (t + 1) S.l0 hn0.1 (by omega) (by have := S.t0; omega) _ S2.2 (fun b hb => upd_ne hb)
      refine ⟨_, rfl, _, _, rfl, rfl, ⟨by decide, by decide⟩, .inl ⟨_, rfl, _, rfl, _, _, rfl, rfl, (by omega : (0 : Int) < n), ?_⟩⟩
      subst hn
      subst hm
      exact k _ _ (Int.emod_nonneg _ (by omega)) (Int.emod_lt_of_pos _ (by omega)) S3.2
    all_goals
      have S2 := put (l / n) m t (Int.ediv_nonneg S.l0 (by omega)) S.m0 S.m1 S.t0 H1 g (fun _ _ => rfl)
      refine ⟨_, rfl, _, rfl, _, _, rfl, _, _, rfl, rfl, (by rw [max1 h1]; exact ⟨by omega, by omega⟩), _, rfl, s, _, rfl, DPut.k (k := Sum.inr "left") S.hs sz, ?_⟩
      rw [put_left, max1 h1]
      refine ⟨_, rfl, .inl ⟨_, rfl, _, rfl, _, _, rfl, _, _, rfl, rfl, (by rw [max1 h1]; omega : (0 : Int) < if n > 1 then n else 1), ?_⟩⟩
      rw [max1 h1]
      exact k _ _ (Int.emod_nonneg _ (by omega)) (Int.emod_lt_of_pos _ (by omega)) S2.2
theorem ok_of (T : Tx K mg) : FnOk P w K mg base CX0 2 T.a_law_of T.fd_law_of ["_law_source_here", "_law_some"] (spOf K) := by
  refine T.F_law_of.ok sc_law_of (fun vs H Q E h => ?_) (fun cdv A outer st H vs Q E hr h => ?_)
  · obtain ⟨s, c, a, xs, rfl, _⟩ := h
    rfl
  obtain ⟨s, c, a, xs, rfl, hS, ha, nac, h1, h2, k⟩ := h
  have G_law_pick : FnOk P w K mg base CX0 1 T.a_law_pick T.fd_law_pick ["_law_source_here", "_law_many"] spPick := ok_pick T
  have hr_law_pick : Room 1 _ := hr
  refine ⟨_, ((pss_one (ps_ret (pe_ix ix_list (pv 1) (pe_call G_law_pick hr_law_pick rfl T.m_law_pick T.F_law_pick.kp T.b_law_pick .nil pass0 (pa_cons (pv 0) (pa_cons (pe_callB call_len_seq (by rfl) T.n_len (by decide +kernel) (pa_cons (pv 1) pa_nil)) pa_nil))) (fun _ _ => rfl))))), ?_⟩
  refine ⟨_, rfl, _, rfl, _, rfl, a, _, rfl, .inl (SqL.of ha), s, c, _, rfl, hS, by omega, by omega, fun i H' i0 i1 g => ?_⟩
  obtain ⟨j, rfl⟩ : ∃ j : Nat, i = (j : Int) := ⟨i.toNat, by omega⟩
  have hj : j < xs.length := by omega
  exact ⟨a, xs, _, xs[j], rfl, rfl, SqL.of (g.lst hS ha nac), atI_nat (List.getElem?_eq_getElem hj), k j _ H' (List.getElem?_eq_getElem hj) g⟩
theorem ok_source (T : Tx K mg) : FnOk P w K mg base CX0 1 T.a_law_source T.fd_law_source ["_law_script"] (spSource K) := by
  refine T.F_law_source.ok sc_law_source (fun vs H Q E h => ?_) (fun cdv A outer st H vs Q E hr h => ?_)
  · obtain ⟨a, ns, rfl, _⟩ := h
    rfl
  obtain ⟨a, ns, rfl, hS, hl, k⟩ := h
  refine ⟨_, ((pss_cons (ps_set (i := 1) sc_law_source.nd rfl (Or.inl rfl) pe_int)
      (pss_cons (ps_for PassesOwn.never rfl (pi_list (pv 0)) (pg_name (i := 2) sc_law_source.nd rfl (Or.inl rfl))
        (pss_one (ps_set (i := 1) sc_law_source.nd rfl (Or.inl rfl) (pe_op op_mod (pe_callTy call_int1 (by rfl) T.n_int (by decide +kernel) (pa_cons (pe_op op_add (pe_op op_add (pe_op op_mul (pv 1) pe_int) (pe_op op_mul (pv 2) pe_int)) pe_int) pa_nil)) pe_int))))
      (pss_one (ps_ret (pe_disp (pps_cons pe_str (pe_revL (pe_lc (own := [("_law_cell", 2)]) (by rfl) sc_law_source.nd (pi_list (pv 0)) (blkOk_by (own := [("_law_cell", 2)]) (N := ["_law_script", "_law_mixed", "_law_cell"]) (sc := defScope s_law_source) (by decide +kernel)) (fun _ _ _ _ _ => pg_name (i := 2) sc_law_source.nd rfl (Or.inl rfl)) (fun _ _ _ _ _ => pts_nil) (fun _ _ _ _ _ => (pe_callB call_abs (by rfl) T.n_abs (by decide +kernel) (pa_cons (pv 2) pa_nil))))) (pps_cons pe_str pe_int (pps_cons pe_str (pv 1) (pps_cons pe_str pe_int pps_nil)))) (by rfl) (by rfl) (fun z => by cases z) (by decide))))))), ?_⟩
  refine ⟨_, rfl, a, rfl, ⟨_, hS⟩, for_list (K := K) (a := a) (xs := ns.map V.int) (fun i σ H' => ∃ (m : Int) (v : Option V), σ = [some (.ref a), some (.int m), v] ∧ H' = H ∧ 0 ≤ m ∧ m < 2147483629) ⟨11, none, rfl, rfl, by decide, by decide⟩ (fun i σ H' _ ⟨_, _, _, e, _⟩ => e ▸ hS) ?_ ?_⟩
  · rintro i y σ H' hi ⟨m, v, rfl, rfl, m0, m1⟩
    obtain ⟨u, rfl⟩ : ∃ u, y = V.int u := by
      rw [List.getElem?_map] at hi
      cases e : ns[i]? with
      | none => rw [e] at hi; cases hi
      | some u => rw [e] at hi; exact ⟨u, (Option.some.inj hi).symm⟩
    refine ⟨_, rfl, _, _, rfl, rfl, .inr ⟨by decide, by decide⟩, _, rfl, _, _, rfl, rfl, .inr ⟨by decide, by decide⟩, _, _, rfl, rfl, _, _, rfl, rfl, .inl ⟨_, rfl, _, _, rfl, rfl, (by show (0 : Int) < 2147483629; decide), ?_⟩⟩
    exact ⟨_, _, rfl, rfl, Int.emod_nonneg _ (by decide), Int.emod_lt_of_pos _ (by decide)⟩
  · rintro σ H' ⟨m, v, rfl, rfl, m0, m1⟩
    intro p hp
    have s0 := same_new hp (.dK [])
    refine ⟨_, rfl, a, rfl, ⟨_, s0.seq hS⟩, fun D hD => ?_⟩
    have npD : p ≠ D := ne_of_none upd_same hD
    refine lc_list (K := K) (a := a) (xs := ns.map V.int) (fun i H2 => Same (upd H' p (.dK [])) H2 ∧ H2 D = some (.lst (((ns.take i).map fun n => if n < 0 then -n else n).map V.int))) ⟨same_new hD _, upd_same⟩ (fun i H2 _ z => z.1.seq (s0.seq hS)) ?_ ?_
    · rintro i y H2 hi ⟨s1, e1⟩
      have hil : i < ns.length := by
        have q := (List.getElem?_eq_some_iff.mp hi).1
        rw [List.length_map] at q
        exact q
      have ey : y = V.int ns[i] := by
        rw [List.getElem?_map, List.getElem?_eq_getElem hil] at hi
        exact (Option.some.inj hi).symm
      subst ey
      refine ⟨rfl, ?_⟩
      refine ⟨_, rfl, _, rfl, _, e1, ?_, ?_, ?_⟩
      · rw [List.length_map, List.length_map, List.length_take]
        exact small1000 (by omega)
      · intro b o e
        rw [upd_ne (ne_of_none e hD)]
        exact s1 b o e
      · rw [upd_same, List.take_succ_eq_append_getElem hil, List.map_append, List.map_append]
        rfl
    · rintro H2 ⟨s1, e1⟩
      refine ⟨D, _, rfl, SqL.of e1, fun c hc => ?_⟩
      have ncp : p ≠ c := ne_of_none (s1 _ _ upd_same) hc
      refine ⟨_, rfl, ?_⟩
      have ep : upd H2 c (.lst ((((ns.take (ns.map V.int).length).map fun n => if n < 0 then -n else n).map V.int).reverse)) p = some (.dK []) := by
        rw [upd_ne ncp]
        exact s1 _ _ upd_same
      refine ⟨ep, srcD c 1 m 0, rfl, (by show 4 ≤ 15; decide), ?_⟩
      rw [srcD_made]
      refine k p c _ ?_ hp ?_ ?_
      · intro b o e
        have nbp : b ≠ p := ne_of_none e hp
        have e2 := s1 b o (by rw [upd_ne nbp]; exact e)
        rw [upd_ne nbp, upd_ne (ne_of_none e2 hc)]
        exact e2
      · exact s0.free (s1.free hc)
      · refine ⟨1, m, 0, ((ns.take (ns.map V.int).length).map fun n => if n < 0 then -n else n).reverse, upd_same, ?_, by decide, m0, by omega, by decide, ?_, ?_⟩
        · rw [upd_ne ncp.symm, upd_same, List.map_reverse]
        · intro n hn
          rw [List.mem_reverse, List.mem_map] at hn
          obtain ⟨q, _, rfl⟩ := hn
          split <;> omega
        · rw [List.length_reverse, List.length_map, List.length_take]
          omega
end
end My
namespace My
open PySem PySem.Spec PyProof.Rows L2
/-! ### drawn words, drawn gaps -/
def txtV (l : List Nat) : V := .str (txt l)
theorem txt_app (a b : List Nat) : txt a ++ txt b = txt (a ++ b) := by
  show (⟨a.toArray ++ b.toArray⟩ : Str) = ⟨(a ++ b).toArray⟩
  rw [List.append_toArray]
/-- a word that may be laid into a text -/
structure OkW (x : List Nat) : Prop where
  ne : x ≠ []
  le : x.length ≤ 31
  asc : ∀ c ∈ x, c < 128 ∧ c ≠ 94
theorem OkW.of {x : List Nat} (h : (!decide (x = []) && decide (x.length ≤ 31) && x.all fun c => decide (c < 128) && !decide (c = 94)) = true) : OkW x := by
  rw [Bool.and_eq_true, Bool.and_eq_true, decide_eq_true_iff, List.all_eq_true] at h
  refine ⟨?_, h.1.2, fun c hc => ?_⟩
  · have := h.1.1
    simpa using this
  · have q := h.2 c hc
    rw [Bool.and_eq_true, decide_eq_true_iff] at q
    exact ⟨q.1, by simpa using q.2⟩
def spAny : Sp := fun vs H Q _ => ∃ (s c : Addr), vs = [.ref s] ∧ Src H s c ∧ ∀ (l : List Nat) (H' : Hp), isLx l = true → OkW l → Go s c H H' → Q (txtV l) H'
def spSpaced : Sp := fun vs H Q _ => ∃ (s c a : Addr) (xs : List (List Nat)), vs = [.ref s, .ref a] ∧ Src H s c ∧ H a = some (.lst (xs.map txtV)) ∧ a ≠ c ∧ xs.length ≤ 12 ∧ (∀ x ∈ xs, OkW x) ∧
  ∀ (t : List Nat) (H' : Hp), Go s c H H' → t.length ≤ 1000 → (∀ d ∈ t, d < 128) → ((∀ x ∈ xs, isLx x = true) → ∃ ts, scan t 0 = (ts, none) ∧ ts.map (·.2.1) = xs) → Q (.str (txt t)) H'
/-- a gap -/
structure Gp (v : V) (g : List Nat) : Prop where
  is : v = txtV g
  bl : g.all (inS BLK) = true
  le : g.length ≤ 4
theorem gp_asc {g : List Nat} (h : g.all (inS BLK) = true) : ∀ d ∈ g, d < 128 := fun d hd => by
  have q : d ∈ BLK.cps.toList := of_decide_eq_true ((List.all_eq_true.mp h) d hd)
  have e : BLK.cps.toList = [32, 10] := by decide +kernel
  rw [e] at q
  simp only [List.mem_cons, List.not_mem_nil, or_false] at q
  omega
theorem gaps3 {v : V} (h : v ∈ [V.str " ", V.str "\n", V.str " \n  "]) : ∃ g, Gp v g ∧ g ≠ [] := by
  simp only [List.mem_cons, List.not_mem_nil, or_false] at h
  rcases h with rfl | rfl | rfl
  · exact ⟨[32], ⟨by decide +kernel, by decide +kernel, by decide⟩, by decide⟩
  · exact ⟨[10], ⟨by decide +kernel, by decide +kernel, by decide⟩, by decide⟩
  · exact ⟨[32, 10, 32, 32], ⟨by decide +kernel, by decide +kernel, by decide⟩, by decide⟩
theorem gaps6 {v : V} (h : v ∈ [V.str " ", V.str "\n", V.str " \n  "] ++ [V.str "", V.str "", V.str ""]) : ∃ g, Gp v g := by
  rcases List.mem_append.mp h with h | h
  · obtain ⟨g, a, _⟩ := gaps3 h
    exact ⟨g, a⟩
  · simp only [List.mem_cons, List.not_mem_nil, or_false, or_self] at h
    rw [h]
    exact ⟨[], ⟨by decide +kernel, rfl, by decide⟩⟩
theorem gapsE {v : V} (h : v ∈ [V.str "", V.str " ", V.str "\n\n"]) : ∃ g, Gp v g := by
  simp only [List.mem_cons, List.not_mem_nil, or_false] at h
  rcases h with rfl | rfl | rfl
  · exact ⟨[], ⟨by decide +kernel, by decide +kernel, by decide⟩⟩
  · exact ⟨[32], ⟨by decide +kernel, by decide +kernel, by decide⟩⟩
  · exact ⟨[10, 10], ⟨by decide +kernel, by decide +kernel, by decide⟩⟩
theorem gapsF {v : V} (h : v ∈ [V.str "", V.str " ", V.str "\n"]) : ∃ g, Gp v g := by
  simp only [List.mem_cons, List.not_mem_nil, or_false] at h
  rcases h with rfl | rfl | rfl
  · exact ⟨[], ⟨by decide +kernel, by decide +kernel, by decide⟩⟩
  · exact ⟨[32], ⟨by decide +kernel, by decide +kernel, by decide⟩⟩
  · exact ⟨[10], ⟨by decide +kernel, by decide +kernel, by decide⟩⟩
section
variable {P : Program} {w : World} {K : PySem.W.Frag} {mg : Str → Option Value} {base : Heap}
theorem ok_spaced (T : Tx K mg) : FnOk P w K mg base CX0 3 T.a_law_spaced T.fd_law_spaced ["_law_source_here", "_law_signs"] spSpaced := by
  refine T.F_law_spaced.ok sc_law_spaced (fun vs H Q E h => ?_) (fun cdv A outer st H vs Q E hr h => ?_)
  · obtain ⟨s, c, a, xs, rfl, _⟩ := h
    rfl
  obtain ⟨s, c, a, xs, rfl, hS, ha, nac, hl, ok, k⟩ := h
  have G_law_of : FnOk P w K mg base CX0 2 T.a_law_of T.fd_law_of ["_law_source_here", "_law_some"] (spOf K) := ok_of T
  have hr_law_of : Room 2 _ := hr
  refine ⟨_, ((pss_cons (ps_par (i := 2) (j := 3) (by rfl) sc_law_spaced.nd rfl rfl (by decide) rfl rfl (pa_cons (pe_call G_law_of hr_law_of rfl T.m_law_of T.F_law_of.kp T.b_law_of .nil pass0 (pa_cons (pv 0) (pa_cons (pe_lst (pa_cons pe_str (pa_cons pe_str (pa_cons pe_str pa_nil)))) pa_nil))) (pa_cons pe_str pa_nil)) (by rfl))
      (pss_cons (ps_for PassesOwn.never rfl (pi_list (pv 1)) (pg_name (i := 4) sc_law_spaced.nd rfl (Or.inl rfl))
        (pss_cons (ps_set (i := 4) sc_law_spaced.nd rfl (Or.inl rfl) (pe_m1 PySem.F.slot_str_strip PySem.F.type_str_strip mt_stripChars (pv 4) pe_str))
      (pss_cons (ps_set (i := 5) sc_law_spaced.nd rfl (Or.inl rfl) (pe_lst (pa_cons pe_str (pa_cons pe_str (pa_cons pe_str pa_nil)))))
      (Evl.pss_cut (ps_if (PW.pt (pw_or (pt_not (pt_val (pe_m0 PySem.F.slot_str_isalnum PySem.F.type_str_isalnum mt_isalnum (pe_op op_add_str (pv 3) (pv 4))))) (pw_or (pt_cmpR op_eq (pv 3) pe_str (nomark _)) (pw_or1 (PW.pt (pw_and (pt_val (pe_m0 PySem.F.slot_str_isdigit PySem.F.type_str_isdigit mt_isdigit (pv 3))) (pw_and1 (pt_not (pt_val (pe_m0 PySem.F.slot_str_isdigit PySem.F.type_str_isdigit mt_isdigit (pe_ix ix_str (pv 4) pe_int (fun _ _ => rfl))))))))))))
        (pss_one (ps_set (i := 5) sc_law_spaced.nd rfl (Or.inl rfl) (pe_op op_cat (pv 5) (pe_lst (pa_cons pe_str (pa_cons pe_str (pa_cons pe_str pa_nil)))))))
        pss_nil)
      (pss_one (ps_par (i := 2) (j := 3) (by rfl) sc_law_spaced.nd rfl rfl (by decide) rfl rfl (pa_cons (pe_op op_add_str (pe_op op_add_str (pv 2) (pe_call G_law_of hr_law_of rfl T.m_law_of T.F_law_of.kp T.b_law_of .nil pass0 (pa_cons (pv 0) (pa_cons (pv 5) pa_nil)))) (pv 4)) (pa_cons (pv 4) pa_nil)) (by rfl)))))))
      (pss_one (ps_ret (pe_op op_add_str (pv 2) (pe_call G_law_of hr_law_of rfl T.m_law_of T.F_law_of.kp T.b_law_of .nil pass0 (pa_cons (pv 0) (pa_cons (pe_lst (pa_cons pe_str (pa_cons pe_str (pa_cons pe_str pa_nil)))) pa_nil))))))))), ?_⟩
  refine ⟨_, rfl, (by show 3 ≤ sizeLine; decide), fun p1 h1 => ?_⟩
  have n1 := hS.ne_none h1
  refine ⟨s, c, p1, _, rfl, hS.same (same_new h1 _), upd_same, n1.2, (by show 1 ≤ 3; decide), (by show 3 < 1000000; decide), fun i x H1 hx g1 => ⟨_, _, rfl, ?_⟩⟩
  obtain ⟨g0, G0⟩ := gapsE (List.mem_of_getElem? hx)
  have g01 : Go s c H H1 := (Go.of hS (same_new h1 _)).trans g1
  rw [G0.is]
  refine ⟨_, rfl, a, rfl, ⟨_, SqL.of (g01.lst hS ha nac)⟩, for_list (K := K) (a := a) (xs := xs.map txtV) (fun i σ M => ∃ (U last : List Nat) (v4 v5 : Option V), σ = [some (.ref s), some (.ref a), some (txtV U), some (txtV last), v4, v5] ∧ Go s c H M ∧
      U.length ≤ 4 + 35 * i ∧ (∀ d ∈ U, d < 128) ∧ last.length ≤ 31 ∧ ((∀ x ∈ xs, isLx x = true) → Reads6 U (xs.take i) last)) ⟨g0, [40], none, none, ?_, g01, G0.le, gp_asc G0.bl, by decide, fun _ => reads6_nil G0.bl⟩ (fun i σ M _ ⟨_, _, _, _, _, g, _⟩ => SqL.of (g.lst hS ha nac)) ?_ ?_⟩
  · show [some (V.ref s), some (V.ref a), some (txtV g0), some (V.str "("), none, none] = _
    have e : V.str "(" = txtV [40] := by decide +kernel
    rw [e]
  · rintro i v σ M hi ⟨U, last, v4, v5, rfl, g, lU, aU, ll, rd⟩
    obtain ⟨x, hx, rfl⟩ : ∃ x, xs[i]? = some x ∧ v = txtV x := by
      rw [List.getElem?_map] at hi
      cases e : xs[i]? with
      | none => rw [e] at hi; cases hi
      | some x => rw [e] at hi; exact ⟨x, rfl, (Option.some.inj hi).symm⟩
    have hil : i < xs.length := (List.getElem?_eq_some_iff.mp hx).1
    have O := ok x (List.mem_of_getElem? hx)
    refine ⟨_, rfl, ⟨_, rfl⟩, _, _, rfl, rfl, ?_, ?_⟩
    · rw [txt_len]; exact sz6 (by have := O.le; omega)
    rw [no_strip (z := txt x) fun d hd => (O.asc d hd).2]
    refine ⟨(by show 3 ≤ sizeLine; decide), fun p2 h2 => ?_⟩
    have n2 := g.src.ne_none h2
    have S2 := g.src.same (same_new h2 (.lst [V.str " ", V.str "\n", V.str " \n  "]))
    have g2 : Go s c H _ := g.then (same_new h2 (.lst [V.str " ", V.str "\n", V.str " \n  "]))
    refine ⟨fun σ' M' => ∃ (p : Addr) (gl : List V), σ' = [some (.ref s), some (.ref a), some (txtV U), some (txtV last), some (txtV x), some (.ref p)] ∧ Go s c H M' ∧ M' p = some (.lst gl) ∧ p ≠ c ∧ 1 ≤ gl.length ∧ gl.length ≤ 6 ∧
      ∀ v ∈ gl, ∃ g, Gp v g ∧ (isLx last = true → isLx x = true → g ≠ [] ∨ ∀ r, goesOn last (x ++ r) = false), ?_, ?_⟩
    · have plain : ∀ v ∈ [V.str " ", V.str "\n", V.str " \n  "], ∃ g, Gp v g ∧ (isLx last = true → isLx x = true → g ≠ [] ∨ ∀ r, goesOn last (x ++ r) = false) := fun v hv => by
        obtain ⟨g, a, b⟩ := gaps3 hv
        exact ⟨g, a, fun _ _ => .inl b⟩
      have e2 : (L2.upd M p2 (.lst [V.str " ", V.str "\n", V.str " \n  "])) p2 = some (.lst [V.str " ", V.str "\n", V.str " \n  "]) := upd_same
      -- with three empty ones more
      have more : (isLx last = true → isLx x = true → Txt.isalnum (txt last ++ txt x) = false ∨ txt last = "0" ∨ (Txt.isdigit (txt last) = true ∧ ∀ d t, x = d :: t → Txt.isdigit (txt [d]) = false)) →
          ∀ v ∈ [V.str " ", V.str "\n", V.str " \n  "] ++ [V.str "", V.str "", V.str ""], ∃ g, Gp v g ∧ (isLx last = true → isLx x = true → g ≠ [] ∨ ∀ r, goesOn last (x ++ r) = false) := fun cnd v hv => by
        obtain ⟨g, a⟩ := gaps6 hv
        exact ⟨g, a, fun l1 l2 => .inr (no_go l1 l2 (cnd l1 l2))⟩
      have fin3 : ∀ p3, (L2.upd M p2 (.lst [V.str " ", V.str "\n", V.str " \n  "])) p3 = none → ∀ p4, (L2.upd (L2.upd M p2 (.lst [V.str " ", V.str "\n", V.str " \n  "])) p3 (.lst [V.str "", V.str "", V.str ""])) p4 = none →
          Go s c H (L2.upd (L2.upd (L2.upd M p2 (.lst [V.str " ", V.str "\n", V.str " \n  "])) p3 (.lst [V.str "", V.str "", V.str ""])) p4 (.lst ([V.str " ", V.str "\n", V.str " \n  "] ++ [V.str "", V.str "", V.str ""]))) ∧ p4 ≠ c := fun p3 h3 p4 h4 => by
        have g3 := g2.then (same_new h3 (.lst [V.str "", V.str "", V.str ""]))
        exact ⟨g3.then (same_new h4 _), (g3.src.ne_none h4).2⟩
      have lim : (txt last).length + (txt x).length ≤ sizeLine := by rw [txt_len, txt_len]; exact sz6 (by have := O.le; omega)
      refine ⟨_, rfl, _, rfl, _, _, rfl, rfl, lim, ⟨_, rfl⟩, _, rfl, rfl, trivial, _, rfl, ?_⟩
      cases t1 : Txt.isalnum (txt last ++ txt x) with
      | false =>
        refine iteT ⟨_, rfl, (by show 3 ≤ sizeLine; decide), fun p3 h3 => ?_⟩
        refine ⟨p2, p3, _, _, rfl, rfl, same_new h3 _ _ _ e2, upd_same, (by show 6 ≤ sizeLine; decide), fun p4 h4 => ?_⟩
        have ⟨f1, f2⟩ := fin3 p3 h3 p4 h4
        exact ⟨p4, _, rfl, f1, upd_same, f2, (by show 1 ≤ 6; decide), (by show 6 ≤ 6; decide), more fun _ _ => .inl t1⟩
      | true =>
        refine iteF ⟨_, rfl, rfl, _, rfl, iteD (fun t2 => ?_) (fun t2 => ?_)⟩
        · have t2 : txt last = "0" := V.str.inj t2
          refine ⟨_, rfl, (by show 3 ≤ sizeLine; decide), fun p3 h3 => ?_⟩
          refine ⟨p2, p3, _, _, rfl, rfl, same_new h3 _ _ _ e2, upd_same, (by show 6 ≤ sizeLine; decide), fun p4 h4 => ?_⟩
          have ⟨f1, f2⟩ := fin3 p3 h3 p4 h4
          exact ⟨p4, _, rfl, f1, upd_same, f2, (by show 1 ≤ 6; decide), (by show 6 ≤ 6; decide), more fun _ _ => .inr (.inl t2)⟩
        · refine ⟨_, rfl, ⟨_, rfl⟩, _, rfl, rfl, trivial, _, rfl, ?_⟩
          cases t3 : Txt.isdigit (txt last) with
          | false => exact iteF ⟨p2, _, rfl, g2, upd_same, n2.2, (by show 1 ≤ 3; decide), (by show 3 ≤ 6; decide), plain⟩
          | true =>
            obtain ⟨d, t, ex⟩ := List.exists_cons_of_ne_nil O.ne
            have at0 : atI (txt x).cps.toList (0 : Int) = some d := by
              show atI x (0 : Int) = some d
              rw [ex]
              exact atI_nat (j := 0) rfl
            refine iteT ⟨_, rfl, txt x, _, d, rfl, rfl, ?_, at0, ⟨_, rfl⟩, _, rfl, rfl, trivial, _, rfl, ?_⟩
            · rw [txt_len]; exact sz6 (by have := O.le; omega)
            cases t4 : Txt.isdigit (⟨#[d]⟩ : Str) with
            | true => exact iteF ⟨p2, _, rfl, g2, upd_same, n2.2, (by show 1 ≤ 3; decide), (by show 3 ≤ 6; decide), plain⟩
            | false =>
              refine iteT ⟨_, rfl, (by show 3 ≤ sizeLine; decide), fun p3 h3 => ?_⟩
              refine ⟨p2, p3, _, _, rfl, rfl, same_new h3 _ _ _ e2, upd_same, (by show 6 ≤ sizeLine; decide), fun p4 h4 => ?_⟩
              have ⟨f1, f2⟩ := fin3 p3 h3 p4 h4
              exact ⟨p4, _, rfl, f1, upd_same, f2, (by show 1 ≤ 6; decide), (by show 6 ≤ 6; decide), more fun _ _ => .inr (.inr ⟨t3, fun d' t' e' => by
                rw [ex] at e'
                cases e'
                exact t4⟩)⟩
    rintro σ' M' ⟨p, gl, rfl, g3, ep, npc, l1, l6, hg⟩
    refine ⟨_, rfl, _, rfl, _, rfl, s, c, p, gl, rfl, g3.src, ep, npc, l1, by omega, fun j v M4 hj g4 => ?_⟩
    obtain ⟨g9, G9, cnd⟩ := hg v (List.mem_of_getElem? hj)
    rw [G9.is]
    have lg := G9.le
    have lx := O.le
    refine ⟨_, _, rfl, rfl, ?_, _, rfl, _, _, rfl, rfl, ?_, _, rfl, _, _, rfl, ?_⟩
    · rw [txt_len, txt_len]; exact sz6 (by omega)
    · rw [txt_app, txt_len, txt_len, List.length_append]; exact sz6 (by omega)
    rw [txt_app, txt_app]
    refine ⟨U ++ g9 ++ x, x, _, _, rfl, g3.trans g4, ?_, ?_, lx, ?_⟩
    · rw [List.length_append, List.length_append]; omega
    · intro d hd
      rcases List.mem_append.mp hd with h | h
      · rcases List.mem_append.mp h with h | h
        · exact aU d h
        · exact gp_asc G9.bl d h
      · exact (O.asc d h).1
    · intro all
      have R := rd all
      have ly := all x (List.mem_of_getElem? hx)
      have ex : xs.take (i + 1) = xs.take i ++ [x] := by
        rw [List.take_succ_eq_append_getElem hil]
        have := (List.getElem?_eq_some_iff.mp hx).2
        rw [this]
      rw [ex]
      exact R.step G9.bl ly (cnd R.lx ly)
  · rintro σ M ⟨U, last, v4, v5, rfl, g, lU, aU, ll, rd⟩
    rw [List.length_map] at lU rd
    refine ⟨_, rfl, _, rfl, (by show 3 ≤ sizeLine; decide), fun p2 h2 => ?_⟩
    have n2 := g.src.ne_none h2
    refine ⟨s, c, p2, _, rfl, g.src.same (same_new h2 _), upd_same, n2.2, (by show 1 ≤ 3; decide), (by show 3 < 1000000; decide), fun i x H2 hx g2 => ?_⟩
    obtain ⟨g9, G9⟩ := gapsF (List.mem_of_getElem? hx)
    have g3 : Go s c H H2 := g.trans ((Go.of g.src (same_new h2 _)).trans g2)
    rw [G9.is]
    refine ⟨_, _, rfl, rfl, ?_, ?_⟩
    · rw [txt_len, txt_len]; exact sz6 (by have := G9.le; omega)
    rw [txt_app]
    refine k _ H2 g3 ?_ ?_ ?_
    · rw [List.length_append]; have := G9.le; omega
    · intro d hd
      rcases List.mem_append.mp hd with h | h
      · exact aU d h
      · exact gp_asc G9.bl d h
    · intro lx
      have R := rd lx
      rw [List.take_length] at R
      obtain ⟨ts, e, go⟩ := R.go
      have q : goesOn last g9 = false := by
        cases g9 with
        | nil => cases last <;> rfl
        | cons d t =>
          have q := goes_gap (x := last) (v := []) G9.bl (List.cons_ne_nil _ _)
          rw [List.append_nil] at q
          exact q
      refine ⟨ts, ?_, e⟩
      have z := scan_gap (g := g9) [] U.length G9.bl
      rw [List.append_nil] at z
      rw [go g9 q, z, scan_nil, List.append_nil]
end
end My
namespace My
open PySem PySem.Spec PyProof.Rows L2
theorem lx_word {c : Nat} {r : List Nat} (h : inS LTR c = true) (hr : r.all isAl = true) (l : r.length ≤ 11) : isLx (c :: r) = true ∧ OkW (c :: r) := by
  have ok : ∀ d, isAl d = true → d < 128 ∧ d ≠ 94 := fun d hd => by
    have q := al_all (fun c => decide (c < 128) && !decide (c = 94)) (by decide +kernel) hd
    rw [Bool.and_eq_true, decide_eq_true_iff] at q
    exact ⟨q.1, by simpa using q.2⟩
  refine ⟨?_, List.cons_ne_nil _ _, by rw [List.length_cons]; omega, fun d hd => ?_⟩
  · show (inS SGN c && decide (r = []) || inS LTR c && r.all isAl && decide (r.length ≤ 11) || inS DIG c && decide (c = 48) && decide (r = []) || inS DIG c && !decide (c = 48) && r.all (inS DIG)) = true
    rw [h, hr, decide_eq_true l]
    simp
  · rcases List.mem_cons.mp hd with e | e
    · rw [e]; exact ok c (ltr_al h)
    · exact ok d ((List.all_eq_true.mp hr) d e)
/-- a word that grows -/
def Grows (W : List Nat) : Prop := W = [] ∨ ∃ c r, W = c :: r ∧ inS LTR c = true ∧ r.all isAl = true
section
variable {P : Program} {w : World} {K : PySem.W.Frag} {mg : Str → Option Value} {base : Heap}
theorem ok_any (T : Tx K mg) : FnOk P w K mg base CX0 2 T.a_law_any_word T.fd_law_any_word ["_law_source_here"] spAny := by
  refine T.F_law_any_word.ok sc_law_any_word (fun vs H Q E h => ?_) (fun cdv A outer st H vs Q E hr h => ?_)
  · obtain ⟨s, c, rfl, _⟩ := h
    rfl
  obtain ⟨s, c, rfl, hS, k⟩ := h
  have G_law_pick : FnOk P w K mg base CX0 1 T.a_law_pick T.fd_law_pick ["_law_source_here", "_law_many"] spPick := ok_pick T
  have hr_law_pick : Room 1 _ := hr
  refine ⟨_, ((pss_cons (ps_asg (pe_tup (pa_cons pe_str (pa_cons pe_str pa_nil))) (pg_tup rfl (pgs_cons (pg_name (i := 1) sc_law_any_word.nd rfl (Or.inl rfl)) (pgs_cons (pg_name (i := 2) sc_law_any_word.nd rfl (Or.inl rfl)) pgs_nil))))
      (pss_cons (ps_for PassesOwn.never rfl (pi_range1 rfl T.n_range (pa_cons (pe_op op_add pe_int (pe_call G_law_pick hr_law_pick rfl T.m_law_pick T.F_law_pick.kp T.b_law_pick .nil pass0 (pa_cons (pv 0) (pa_cons pe_int pa_nil)))) pa_nil)) (pg_name (i := 3) sc_law_any_word.nd rfl (Or.inl rfl))
        (pss_one (ps_set (i := 2) sc_law_any_word.nd rfl (Or.inl rfl) (pe_op op_add_str (pv 2) (pe_ix ix_str (pe_ifExp (pt_cmpR op_gt (pv 3) pe_int (nomark _)) (pe_op op_add_str (pv 1) pe_str) (pv 1)) (pe_call G_law_pick hr_law_pick rfl T.m_law_pick T.F_law_pick.kp T.b_law_pick .nil pass0 (pa_cons (pv 0) (pa_cons (pe_ifExp (pt_cmpR op_gt (pv 3) pe_int (nomark _)) pe_int pe_int) pa_nil))) (fun _ _ => rfl))))))
      (pss_one (ps_ret (pv 2)))))), ?_⟩
  refine ⟨(by show 2 ≤ sizeLine; decide), fun p0 h0 => ⟨p0, _, rfl, SqT.of upd_same, rfl, _, _, rfl, _, _, rfl, rfl, ?_⟩⟩
  have g0 : Go s c H _ := Go.of hS (same_new h0 (.tup [.str LTR, .str ""]))
  refine ⟨_, rfl, s, c, 12, rfl, g0.src, by decide, by decide, fun m H1 m0 m1 g1 => ?_⟩
  refine ⟨_, _, rfl, rfl, _, rfl, by omega, by omega, ?_⟩
  refine for_range (lo := 0) (n := (1 + m).toNat) (fun i σ M => ∃ (W : List Nat) (v3 : Option V), σ = [some (.ref s), some (.str LTR), some (txtV W), v3] ∧ Go s c H M ∧ W.length = i ∧ Grows W) ⟨[], none, rfl, g0.trans g1, rfl, .inl rfl⟩ ?_ ?_
  · rintro i σ M hi ⟨W, v3, rfl, g, lW, gr⟩
    have lim : ∀ y : Nat, (txt W).length + (⟨#[y]⟩ : Str).length ≤ sizeLine := fun y => by
      rw [txt_len]
      show W.length + 1 ≤ _
      exact sz6 (by omega)
    have cat : ∀ y : Nat, txt W ++ (⟨#[y]⟩ : Str) = txt (W ++ [y]) := fun y => txt_app W [y]
    refine ⟨_, rfl, _, rfl, _, _, rfl, rfl, _, rfl, iteD (fun c1 => ?_) (fun c1 => ?_)⟩
    · refine ⟨_, rfl, _, _, rfl, rfl, (by show 26 + 10 ≤ sizeLine; decide), _, rfl, _, rfl, _, _, rfl, rfl, _, rfl, iteD (fun _ => ?_) (fun n => absurd c1 n)⟩
      refine ⟨s, c, 36, rfl, g.src, by decide, by decide, fun j M2 j0 j1 g2 => ?_⟩
      have l36 : (LTR ++ DIG).cps.toList.length = 36 := by decide +kernel
      have hj : j.toNat < (LTR ++ DIG).cps.toList.length := by rw [l36]; omega
      have ej : ((j.toNat : Nat) : Int) = j := by omega
      have ea : atI (LTR ++ DIG).cps.toList j = some ((LTR ++ DIG).cps.toList[j.toNat]) := by
        have q := atI_nat (List.getElem?_eq_getElem hj)
        rw [ej] at q
        exact q
      have al : isAl ((LTR ++ DIG).cps.toList[j.toNat]) = true := decide_eq_true (List.getElem_mem _)
      refine ⟨_, _, _, rfl, rfl, (by show 36 ≤ sizeLine; decide), ea, _, _, rfl, rfl, lim _, ?_⟩
      rw [cat]
      refine ⟨_, _, rfl, g.trans g2, by rw [List.length_append, lW]; rfl, .inr ?_⟩
      rcases gr with e | ⟨d, r, e, h1, h2⟩
      · rw [e] at lW
        have : (i : Nat) = 0 := lW.symm
        omega
      · refine ⟨d, r ++ [_], by rw [e]; rfl, h1, ?_⟩
        rw [List.all_append, h2, List.all_cons, al]
        rfl
    · refine ⟨_, rfl, _, rfl, _, rfl, _, _, rfl, rfl, _, rfl, iteD (fun n => absurd n c1) (fun _ => ?_)⟩
      refine ⟨s, c, 26, rfl, g.src, by decide, by decide, fun j M2 j0 j1 g2 => ?_⟩
      have l26 : LTR.cps.toList.length = 26 := by decide +kernel
      have hj : j.toNat < LTR.cps.toList.length := by rw [l26]; omega
      have ej : ((j.toNat : Nat) : Int) = j := by omega
      have ea : atI LTR.cps.toList j = some (LTR.cps.toList[j.toNat]) := by
        have q := atI_nat (List.getElem?_eq_getElem hj)
        rw [ej] at q
        exact q
      have al : inS LTR (LTR.cps.toList[j.toNat]) = true := decide_eq_true (List.getElem_mem _)
      refine ⟨_, _, _, rfl, rfl, (by show 26 ≤ sizeLine; decide), ea, _, _, rfl, rfl, lim _, ?_⟩
      rw [cat]
      have i0 : i = 0 := by omega
      refine ⟨_, _, rfl, g.trans g2, by rw [List.length_append, lW]; rfl, .inr ?_⟩
      have eW : W = [] := List.length_eq_zero_iff.mp (by omega)
      rw [eW]
      exact ⟨_, [], rfl, al, rfl⟩
  · rintro σ M ⟨W, v3, rfl, g, lW, gr⟩
    refine ⟨_, rfl, ?_⟩
    rcases gr with e | ⟨d, r, e, h1, h2⟩
    · rw [e] at lW
      have : (1 + m).toNat = 0 := lW.symm
      omega
    · have l : r.length ≤ 11 := by
        rw [e, List.length_cons] at lW
        omega
      have q := lx_word h1 h2 l
      rw [← e] at q
      exact k W M q.1 q.2 g
end
end My
namespace My
open PySem PySem.Spec PyProof.Rows L2
/-! ### what is told of a text, as data -/
def tkD (t : Tk) : PyData := .tuple [.str t.1, .str (txt t.2.1), .int (t.2.2 : Nat)]
def resOf : List Tk × Option Nat → PyData
  | (ts, none) => .list [.str "told", .list (ts.map tkD)]
  | (_, some q) => .list [.str "refused", .int (q : Nat)]
def resD (l : List Nat) : PyData := resOf (scan l 0)
structure TkOk (t : List Nat) (p : Nat) (k : Tk) : Prop where
  kl : k.1.length ≤ 6
  ks : PyData.strOk k.1 = true
  sub : ∀ c ∈ k.2.1, c ∈ t
  len : k.2.1.length ≤ t.length
  at_ : k.2.2 < p + t.length
theorem kind_ok {c : Nat} {r : List Nat} {k : Str} {n : Nat} (h : lexL (c :: r) = some (k, n)) : k.length ≤ 6 ∧ PyData.strOk k = true := by
  have h : lexC c r = some (k, n) := h
  unfold lexC at h
  have w1 : (("sign" : Str).length ≤ 6 ∧ PyData.strOk ("sign" : Str) = true) ∧ (("word" : Str).length ≤ 6 ∧ PyData.strOk ("word" : Str) = true) ∧ (("number" : Str).length ≤ 6 ∧ PyData.strOk ("number" : Str) = true) := by decide +kernel
  by_cases h1 : inS SGN c = true
  · rw [if_pos h1] at h
    have e := (Prod.mk.inj (Option.some.inj h)).1
    rw [← e]; exact w1.1
  rw [if_neg h1] at h
  by_cases h2 : inS LTR c = true
  · rw [if_pos h2] at h
    by_cases h3 : runL (inS (LTR ++ DIG)) (c :: r) ≤ 12
    · rw [if_pos h3] at h
      have e := (Prod.mk.inj (Option.some.inj h)).1
      rw [← e]; exact w1.2.1
    · rw [if_neg h3] at h
      cases h
  rw [if_neg h2] at h
  by_cases h3 : inS DIG c = true
  · rw [if_pos h3] at h
    have e := (Prod.mk.inj (Option.some.inj h)).1
    rw [← e]; exact w1.2.2
  · rw [if_neg h3] at h
    cases h
theorem scanF_ok : ∀ (f : Nat) (t : List Nat) (p : Nat), (∀ k ∈ (scanF f t p).1, TkOk t p k) ∧ (scanF f t p).1.length ≤ t.length
  | 0, _, _ => ⟨(fun _ h => nomatch h), Nat.zero_le _⟩
  | _ + 1, [], _ => ⟨(fun _ h => nomatch h), Nat.zero_le _⟩
  | f + 1, c :: r, p => by
    have l : (c :: r).length = r.length + 1 := rfl
    unfold scanF
    by_cases hb : inS BLK c = true
    · rw [if_pos hb]
      have ⟨a, b⟩ := scanF_ok f r (p + 1)
      exact ⟨fun k hk => let z := a k hk; ⟨z.kl, z.ks, fun d hd => List.mem_cons_of_mem _ (z.sub d hd), by have := z.len; omega, by have := z.at_; omega⟩, by omega⟩
    · rw [if_neg hb]
      cases e : lexL (c :: r) with
      | none => exact ⟨(fun _ h => nomatch h), Nat.zero_le _⟩
      | some kn =>
        obtain ⟨kd, n⟩ := kn
        have ⟨n1, n2⟩ := lexL_pos e
        have ⟨a, b⟩ := scanF_ok f ((c :: r).drop n) (p + n)
        have ⟨k1, k2⟩ := kind_ok e
        rw [List.length_drop] at b
        refine ⟨fun k hk => ?_, ?_⟩
        · rcases List.mem_cons.mp hk with e | e
          · rw [e]
            exact ⟨k1, k2, fun d hd => List.mem_of_mem_take hd, by show ((c :: r).take n).length ≤ _; rw [List.length_take]; omega, by show p < _; omega⟩
          · have z := a k e
            have z1 := z.len
            have z2 := z.at_
            rw [List.length_drop] at z1 z2
            exact ⟨z.kl, z.ks, fun d hd => List.mem_of_mem_drop (z.sub d hd), by omega, by omega⟩
        · show (scanF f ((c :: r).drop n) (p + n)).1.length + 1 ≤ _
          omega
theorem strOk_txt {l : List Nat} (h : ∀ c ∈ l, c < 128) : PyData.strOk (txt l) = true := by
  show l.toArray.all (fun c => decide (c < 0x110000)) = true
  rw [List.all_toArray, List.all_eq_true]
  intro c hc
  exact decide_eq_true (Nat.lt_trans (h c hc) (by decide))
theorem tks_can : ∀ {ts : List Tk}, (∀ k ∈ ts, PyData.strOk k.1 = true ∧ PyData.strOk (txt k.2.1) = true) → PyData.canLayAll0 (ts.map tkD) = true ∧ PyData.depthAll (ts.map tkD) ≤ 1
  | [], _ => ⟨rfl, Nat.zero_le _⟩
  | k :: ts, h => by
    have ⟨a1, a2⟩ := tks_can (ts := ts) fun q hq => h q (List.mem_cons_of_mem _ hq)
    have ⟨b1, b2⟩ := h k List.mem_cons_self
    refine ⟨?_, ?_⟩
    · show ((PyData.strOk k.1 && (PyData.strOk (txt k.2.1) && (true && true))) && PyData.canLayAll0 (ts.map tkD)) = true
      rw [b1, b2, a1]; rfl
    · show max (max 0 (max 0 (max 0 0)) + 1) (PyData.depthAll (ts.map tkD)) ≤ 1
      omega
theorem log_small {i : Nat} (h : i < 1024) : ((i : Nat) : Int).natAbs.log2 < 10 ∧ (if (((i : Nat) : Int) == 0) = true then 0 else ((i : Nat) : Int).natAbs.log2 + 1) ≤ 10 := by
  have e : ((i : Nat) : Int).natAbs = i := by omega
  rw [e]
  have q : i.log2 < 10 := by
    by_cases z : i = 0
    · rw [z]; decide
    · exact (Nat.log2_lt z).mpr h
  refine ⟨q, ?_⟩
  split <;> omega
theorem tks_lay {n : Nat} : ∀ {ts : List Tk}, (∀ k ∈ ts, k.1.length ≤ 6 ∧ k.2.1.length ≤ n ∧ k.2.2 < 1024) →
    PyData.weightAll (ts.map tkD) ≤ ts.length * (n + 20) ∧ PyData.intsShortAll 13 (ts.map tkD) = true ∧ PyData.showableAll (ts.map tkD) = true
  | [], _ => ⟨Nat.zero_le _, rfl, rfl⟩
  | k :: ts, h => by
    have ⟨a3, a4, a5⟩ := tks_lay (ts := ts) fun q hq => h q (List.mem_cons_of_mem _ hq)
    have ⟨b1, b4, b5⟩ := h k List.mem_cons_self
    have ⟨l1, l2⟩ := log_small b5
    refine ⟨?_, ?_, ?_⟩
    · have e : PyData.weightAll ((k :: ts).map tkD) = (tkD k).weight + 1 + PyData.weightAll (ts.map tkD) := by simp only [List.map_cons, PyData.weightAll]
      have e2 : (tkD k).weight ≤ n + 19 := by
        have q1 : k.1.cps.size ≤ 6 := b1
        have q2 : (txt k.2.1).cps.size ≤ n := by
          have : (txt k.2.1).cps.size = k.2.1.length := txt_len _
          omega
        simp only [tkD, PyData.weight, PyData.weightAll]
        omega
      rw [e, List.length_cons, Nat.succ_mul]
      omega
    · have e : PyData.intsShort 13 (.int (k.2.2 : Nat)) = true := by
        show decide _ = true
        exact decide_eq_true (PyData.shown_int_le (by omega))
      show ((true && (true && (PyData.intsShort 13 (.int (k.2.2 : Nat)) && true))) && PyData.intsShortAll 13 (ts.map tkD)) = true
      rw [e, a4]; rfl
    · have e : PyData.showable (.int (k.2.2 : Nat)) = true := by
        show decide _ = true
        exact decide_eq_true (by omega)
      show ((true && (true && (PyData.showable (.int (k.2.2 : Nat)) && true))) && PyData.showableAll (ts.map tkD)) = true
      rw [e, a5]; rfl
theorem scan_ok (t : List Nat) : (∀ k ∈ (scan t 0).1, TkOk t 0 k) ∧ (scan t 0).1.length ≤ t.length := scanF_ok _ _ _
theorem res_shaped {t : List Nat} (h : ∀ c ∈ t, c < 128) : SeqAt.shaped (resD t) = true := by
  have ⟨a, b⟩ := scan_ok t
  unfold resD
  generalize scan t 0 = z at a b
  obtain ⟨ts, o⟩ := z
  cases o with
  | some q =>
    have w : PyData.strOk ("refused" : Str) = true := by decide +kernel
    refine shaped_list (ds := [.str "refused", .int (q : Nat)]) ?_ (Nat.zero_le _)
    show (PyData.strOk ("refused" : Str) && (true && true)) = true
    rw [w]; rfl
  | none =>
    have ⟨c1, c2⟩ := tks_can (ts := ts) fun k hk => ⟨(a k hk).ks, strOk_txt fun c hc => h c ((a k hk).sub c hc)⟩
    have w : PyData.strOk ("told" : Str) = true := by decide +kernel
    refine shaped_list (ds := [.str "told", .list (ts.map tkD)]) ?_ ?_
    · show (PyData.strOk ("told" : Str) && (PyData.canLayAll0 (ts.map tkD) && true)) = true
      rw [w, c1]; rfl
    · show max 0 (max (PyData.depthAll (ts.map tkD) + 1) 0) ≤ 60
      omega
/-- what holds of told data: it can be compared, and shown -/
structure ResOk (d : PyData) : Prop where
  shaped : SeqAt.shaped d = true
  show_ : d.showable = true
  depth : d.depth ≤ 60
  size : d.shown.length ≤ sizeLine
theorem res_ok {t : List Nat} (h : ∀ c ∈ t, c < 128) (l : t.length ≤ 1000) : ResOk (resD t) := by
  have sh := res_shaped h
  have ⟨a, b⟩ := scan_ok t
  have hq : ∀ q, (scan t 0).2 = some q → q < 1024 := fun q e => by have := scan_lt e; omega
  have big : PyData.layable0 (resD t) = true ∧ (resD t).intsShort 13 = true ∧ (resD t).showable = true ∧ (resD t).depth ≤ 60 := by
    unfold resD at sh ⊢
    have cd := (Bool.and_eq_true_iff.mp sh)
    generalize scan t 0 = z at a b sh cd hq
    obtain ⟨ts, o⟩ := z
    cases o with
    | some q =>
      have ⟨l1, l2⟩ := log_small (hq q rfl)
      refine ⟨?_, ?_, ?_, (by show 1 ≤ 60; decide)⟩
      · have w : PyData.weight (resOf (ts, some q)) ≤ 2 ^ 20 := by
          have e4 : ("refused" : Str).cps.size = 7 := by decide +kernel
          show PyData.weightAll [.str "refused", .int (q : Nat)] ≤ _
          simp only [PyData.weightAll, PyData.weight]
          rw [e4]
          have e20 : (2 : Nat) ^ 20 = 1048576 := by decide
          omega
        show (PyData.canLay0 _ && decide (PyData.depth _ ≤ 64) && decide (PyData.weight _ ≤ 2 ^ 20)) = true
        rw [cd.1, cd.2, decide_eq_true w]; rfl
      · have e : PyData.intsShort 13 (.int (q : Nat)) = true := by
          show decide _ = true
          exact decide_eq_true (PyData.shown_int_le (by have := hq q rfl; omega))
        show (true && (PyData.intsShort 13 (.int (q : Nat)) && true)) = true
        rw [e]; rfl
      · have e : PyData.showable (.int (q : Nat)) = true := by
          show decide _ = true
          exact decide_eq_true (by omega)
        show (true && (PyData.showable (.int (q : Nat)) && true)) = true
        rw [e]; rfl
    | none =>
      have ⟨c1, c2, c3⟩ := tks_lay (n := 1000) (ts := ts) fun k hk => let z := a k hk; ⟨z.kl, by have := z.len; omega, by have := z.at_; omega⟩
      have ⟨d1, d2⟩ := tks_can (ts := ts) fun k hk => ⟨(a k hk).ks, strOk_txt fun c hc => h c ((a k hk).sub c hc)⟩
      have b' : ts.length ≤ 1000 := by
        have : ts.length ≤ t.length := b
        omega
      have m : ts.length * (1000 + 20) ≤ 1000 * 1020 := Nat.mul_le_mul b' (Nat.le_refl _)
      refine ⟨?_, ?_, ?_, ?_⟩
      · have w : PyData.weight (resOf (ts, none)) ≤ 2 ^ 20 := by
          have e4 : ("told" : Str).cps.size = 4 := by decide +kernel
          show PyData.weightAll [.str "told", .list (ts.map tkD)] ≤ _
          simp only [PyData.weightAll, PyData.weight]
          rw [e4]
          have e20 : (2 : Nat) ^ 20 = 1048576 := by decide
          omega
        show (PyData.canLay0 _ && decide (PyData.depth _ ≤ 64) && decide (PyData.weight _ ≤ 2 ^ 20)) = true
        rw [cd.1, cd.2, decide_eq_true w]; rfl
      · show (true && (PyData.intsShortAll 13 (ts.map tkD) && true)) = true
        rw [c2]; rfl
      · show (true && (PyData.showableAll (ts.map tkD) && true)) = true
        rw [c3]; rfl
      · show max 0 (max (PyData.depthAll (ts.map tkD) + 1) 0) + 1 ≤ 60
        omega
  exact ⟨sh, big.2.2.1, big.2.2.2, PyData.shown_fits_of_layable0 (by decide) (by decide) big.1 big.2.1⟩
/-- what is told of l stands at a: its parts are new, none of them at b -/
structure Res (H : Hp) (b a : Addr) (l : List Nat) : Prop where
  ne : a ≠ b
  is : ((scan l 0).2 = none ∧ ∃ (f : Addr) (xs : List V), f ≠ b ∧ f ≠ a ∧ H a = some (.lst [.str "told", .ref f]) ∧ H f = some (.lst xs) ∧ Tks H xs (scan l 0).1) ∨
    ∃ q, (scan l 0).2 = some q ∧ H a = some (.lst [.str "refused", .int (q : Nat)])
theorem Tks.dp {K : PySem.W.Frag} {H : Hp} : ∀ {xs : List V} {ts : List Tk}, Tks H xs ts → DpAll K H xs (ts.map tkD)
  | _, _, .nil => .nil
  | _, _, .cons e h => .cons (.tup (SqT.of e) (.cons (.str _) (.cons (.str _) (.cons (.int _) .nil)))) h.dp
theorem Res.dp {K : PySem.W.Frag} {H : Hp} {b a : Addr} {l : List Nat} (h : Res H b a l) : Dp K H (.ref a) (resD l) := by
  unfold resD
  rcases h.is with ⟨e, f, xs, _, _, ea, ef, tk⟩ | ⟨q, e, ea⟩
  · generalize scan l 0 = z at e tk
    obtain ⟨ts, o⟩ := z
    cases e
    exact .lst (SqL.of ea) (.cons (.str _) (.cons (.lst (SqL.of ef) tk.dp) .nil))
  · generalize scan l 0 = z at e
    obtain ⟨ts, o⟩ := z
    cases e
    exact .lst (SqL.of ea) (.cons (.str _) (.cons (.int _) .nil))
theorem Res.same {H H' : Hp} {b a : Addr} {l : List Nat} (s : Same H H') (h : Res H b a l) : Res H' b a l := by
  refine ⟨h.ne, ?_⟩
  rcases h.is with ⟨e, f, xs, nf, nfa, ea, ef, tk⟩ | ⟨q, e, ea⟩
  · exact .inl ⟨e, f, xs, nf, nfa, s _ _ ea, s _ _ ef, tk.same s⟩
  · exact .inr ⟨q, e, s _ _ ea⟩
theorem Res.upd {H : Hp} {b a : Addr} {l : List Nat} (h : Res H b a l) {ys zs : List V} (e : H b = some (.lst ys)) : Res (L2.upd H b (.lst zs)) b a l := by
  refine ⟨h.ne, ?_⟩
  rcases h.is with ⟨e1, f, xs, nf, nfa, ea, ef, tk⟩ | ⟨q, e1, ea⟩
  · exact .inl ⟨e1, f, xs, nf, nfa, by rw [upd_ne h.ne]; exact ea, by rw [upd_ne nf]; exact ef, tk.upd e⟩
  · exact .inr ⟨q, e1, by rw [upd_ne h.ne]; exact ea⟩
/-- to be told of a text (b: some place that is known before) -/
theorem tell {z : Str} {H : Hp} {Q : VK} {E : XK} (hz : z.length ≤ 100000) (h : ∀ (a : Addr) (H' : Hp), Same H H' → H a = none → (∀ b, H b ≠ none → Res H' b a z.cps.toList) → Q (.ref a) H') : spTold [.str z] H Q E := by
  refine ⟨z, rfl, hz, fun e a f xs H' s ha hf nn ea ef tk => h a H' s ha fun b hb => ⟨fun q => hb (q ▸ ha), .inl ⟨e, f, xs, fun q => hb (q ▸ hf), nn.symm, ea, ef, tk⟩⟩, fun q e a H' s ha ea => h a H' s ha fun b hb => ⟨fun q => hb (q ▸ ha), .inr ⟨q, e, ea⟩⟩⟩
theorem tellDue {z : Str} {H : Hp} {Q : VK} {E : XK} (hz : z.length ≤ 100000) (h : ∀ (a : Addr) (H' : Hp), Same H H' → H a = none → (∀ b, H b ≠ none → Res H' b a z.cps.toList) → Q (.ref a) H') : spDue [.str z] H Q E := tell (E := E) hz h
end My
namespace My
open PySem PySem.Spec PyProof.Rows L2
/-! ### what stands throughout the law -/
def wsA : List (List Nat) := (["a", "x1", "abcdefghijkl", "book", "to", "0", "7", "10", "305", "1000000000000000000000000000000", "(", ")", "{", "}", ",", ";"] : List Str).map fun z => z.cps.toList
def odA : List (List Nat) := (["A", "Z9", "-", "-1", "_", "#", ".", "[", "]", ":", "'", "\t", "a\t", "aB", "a-b", "~", "1_", "toA", "abcdefghijklm", "9abcdefghijklm", "abcdefghijkl0"] : List Str).map fun z => z.cps.toList
theorem wsA_ok : ∀ x ∈ wsA, isLx x = true ∧ OkW x := by
  have q : wsA.all (fun x => isLx x && (!decide (x = []) && decide (x.length ≤ 31) && x.all fun c => decide (c < 128) && !decide (c = 94))) = true := by decide +kernel
  intro x hx
  have z := (List.all_eq_true.mp q) x hx
  rw [Bool.and_eq_true] at z
  exact ⟨z.1, .of z.2⟩
theorem odA_ok : ∀ x ∈ odA, OkW x := by
  have q : odA.all (fun x => !decide (x = []) && decide (x.length ≤ 31) && x.all fun c => decide (c < 128) && !decide (c = 94)) = true := by decide +kernel
  exact fun x hx => .of ((List.all_eq_true.mp q) x hx)
theorem wsA_is : [V.str "a", .str "x1", .str "abcdefghijkl", .str "book", .str "to", .str "0", .str "7", .str "10", .str "305", .str (toString ((10 : Int) ^ (30 : Int).toNat)), .str "(", .str ")", .str "{", .str "}", .str ",", .str ";"] = wsA.map txtV := by decide +kernel
theorem odA_is : [V.str "A", .str "Z9", .str "-", .str "-1", .str "_", .str "#", .str ".", .str "[", .str "]", .str ":", .str "'", .str "\t", .str "a\t", .str "aB", .str "a-b", .str "~", .str "1_", .str "toA"] ++ [V.str "abcdefghijklm", .str "9abcdefghijklm", .str "abcdefghijkl0"] = odA.map txtV := by decide +kernel
structure Ctx6 (s c pS pO : Addr) (ws : List (List Nat)) (M : Hp) : Prop where
  src : Src M s c
  eS : M pS = some (.lst (ws.map txtV))
  eO : M pO = some (.lst (odA.map txtV))
theorem Ctx6.go {s c pS pO : Addr} {ws : List (List Nat)} {M M' : Hp} (h : Ctx6 s c pS pO ws M) (nS : pS ≠ c) (nO : pO ≠ c) (g : Go s c M M') : Ctx6 s c pS pO ws M' := ⟨g.src, g.lst h.src h.eS nS, g.lst h.src h.eO nO⟩
theorem Ctx6.same {s c pS pO : Addr} {ws : List (List Nat)} {M M' : Hp} (h : Ctx6 s c pS pO ws M) (g : Same M M') : Ctx6 s c pS pO ws M' := ⟨h.src.same g, g _ _ h.eS, g _ _ h.eO⟩
theorem Src.upd6 {M : Hp} {s c D : Addr} {o : HO} (S : Src M s c) (n : D ≠ s ∧ D ≠ c) : Src (L2.upd M D o) s c := by
  obtain ⟨l, m, t, ns, h⟩ := S
  exact ⟨l, m, t, ns, by rw [upd_ne n.1.symm]; exact h.hs, by rw [upd_ne n.2.symm]; exact h.hc, h.l0, h.m0, h.m1, h.t0, h.n0, h.len⟩
theorem Ctx6.upd {s c pS pO D : Addr} {ws : List (List Nat)} {M : Hp} {o : HO} (h : Ctx6 s c pS pO ws M) (n : D ≠ s ∧ D ≠ c) (nS : D ≠ pS) (nO : D ≠ pO) : Ctx6 s c pS pO ws (L2.upd M D o) :=
  ⟨h.src.upd6 n, by rw [upd_ne nS.symm]; exact h.eS, by rw [upd_ne nO.symm]; exact h.eO⟩
/-- a new address is none of these -/
theorem Ctx6.new {s c pS pO D : Addr} {ws : List (List Nat)} {M : Hp} (h : Ctx6 s c pS pO ws M) (hD : M D = none) : (D ≠ s ∧ D ≠ c) ∧ D ≠ pS ∧ D ≠ pO := ⟨h.src.ne_none hD, (ne_of_none h.eS hD).symm, (ne_of_none h.eO hD).symm⟩
theorem dp_txts {K : PySem.W.Frag} {H : Hp} : ∀ xs : List (List Nat), DpAll K H (xs.map txtV) (xs.map fun x => .str (txt x))
  | [] => .nil
  | x :: xs => .cons (.str _) (dp_txts xs)
theorem txts_can : ∀ {xs : List (List Nat)}, (∀ x ∈ xs, ∀ c ∈ x, c < 128) → PyData.canLayAll0 (xs.map fun x => .str (txt x)) = true ∧ PyData.depthAll (xs.map fun x => .str (txt x)) ≤ 1
  | [], _ => ⟨rfl, Nat.zero_le _⟩
  | x :: xs, h => by
    have ⟨a, b⟩ := txts_can (xs := xs) fun y hy => h y (List.mem_cons_of_mem _ hy)
    refine ⟨?_, ?_⟩
    · show (PyData.strOk (txt x) && PyData.canLayAll0 (xs.map fun x => .str (txt x))) = true
      rw [strOk_txt (h x List.mem_cons_self), a]; rfl
    · show max 0 (PyData.depthAll (xs.map fun x => .str (txt x))) ≤ 1
      omega
theorem txts_shaped {xs : List (List Nat)} (h : ∀ x ∈ xs, ∀ c ∈ x, c < 128) : SeqAt.shaped (.list (xs.map fun x => .str (txt x))) = true := by
  have ⟨a, b⟩ := txts_can h
  exact shaped_list a (by omega)
theorem eqv_same {d : PyData} (h : SeqAt.shaped d = true) : PyData.eqv d d = true := SeqAt.eqv_refl d (SeqAt.canLay_of_shaped h)
theorem Tks.get {H : Hp} : ∀ {xs : List V} {ts : List Tk} {i : Nat} {x : V}, Tks H xs ts → xs[i]? = some x → ∃ a t, ts[i]? = some t ∧ x = .ref a ∧ H a = some (.tup (tkV t))
  | _, _, 0, _, .cons e _, h => by
    cases h
    exact ⟨_, _, rfl, rfl, e⟩
  | _, _, i + 1, _, .cons _ hs, h => hs.get (i := i) h
theorem Res.part {H : Hp} {b a f : Addr} {l : List Nat} {x : V} (h : Res H b a l) (e : H a = some (.lst [x, .ref f])) : f ≠ b := by
  rcases h.is with ⟨_, f', xs, nf, _, ea, _, _⟩ | ⟨q, _, ea⟩
  · rw [e] at ea
    cases ea
    exact nf
  · rw [e] at ea
    cases ea
theorem Src.there {M : Hp} {s c : Addr} (S : Src M s c) : M s ≠ none ∧ M c ≠ none := by
  obtain ⟨l, m, t, ns, h⟩ := S
  refine ⟨fun z => ?_, fun z => ?_⟩
  · rw [h.hs] at z; cases z
  · rw [h.hc] at z; cases z
theorem some_ne {M : Hp} {a : Addr} {o : HO} (h : M a = some o) : M a ≠ none := fun z => by rw [h] at z; cases z
theorem cutS_part (t : List Nat) (lo hi : Option Int) : ∃ t', cutS (txt t) lo hi = txt t' ∧ t'.length ≤ t.length ∧ ∀ c ∈ t', c ∈ t := by
  refine ⟨(t.drop (HT.sIx (txt t).length 0 lo)).take (HT.sIx (txt t).length (txt t).length hi - HT.sIx (txt t).length 0 lo), rfl, ?_, fun c hc => List.mem_of_mem_drop (List.mem_of_mem_take hc)⟩
  rw [List.length_take, List.length_drop]
  omega
theorem cut_lo (fs : List (List Nat)) {j : Nat} (h : j ≤ fs.length) : cutV (fs.map txtV) none (some (j : Int)) = (fs.take j).map txtV := by
  show ((fs.map txtV).drop 0).take (HT.sIx (fs.map txtV).length (fs.map txtV).length (some (j : Int)) - 0) = _
  rw [HT.sIx_nat, List.length_map, Nat.min_eq_left h, Nat.sub_zero, List.drop_zero, List.map_take]
theorem cut_hi (fs : List (List Nat)) {j : Nat} (h : j ≤ fs.length) : cutV (fs.map txtV) (some (j : Int)) none = (fs.drop j).map txtV := by
  show ((fs.map txtV).drop (HT.sIx (fs.map txtV).length 0 (some (j : Int)))).take ((fs.map txtV).length - HT.sIx (fs.map txtV).length 0 (some (j : Int))) = _
  rw [HT.sIx_nat, List.length_map, Nat.min_eq_left h, List.map_drop, List.take_of_length_le]
  rw [List.length_drop, List.length_map]
  omega
end My
namespace My
open PySem PySem.Spec PyProof.Rows L2
/-! ### the long text, as lists -/
def blk6 : List Nat := [97, 98, 40, 55, 41, 32]
def T6 (p : Nat) : List Tk := [("word", [97, 98], p), ("sign", [40], p + 2), ("number", [55], p + 3), ("sign", [41], p + 4)]
def rep6 : Nat → List Nat
  | 0 => []
  | n + 1 => blk6 ++ rep6 n
def TT6 : Nat → Nat → List Tk
  | 0, _ => []
  | n + 1, p => T6 p ++ TT6 n (p + 6)
theorem go_one {c d : Nat} {r v : List Nat} (h : ((inS LTR c && isAl d) || (inS DIG c && !decide (c = 48) && inS DIG d)) = false) : goesOn (c :: r) ([d] ++ v) = false := h
theorem scan_blk (v : List Nat) (p : Nat) : scan (blk6 ++ v) p = (T6 p ++ (scan v (p + 6)).1, (scan v (p + 6)).2) := by
  have e : blk6 ++ v = [97, 98] ++ ([40] ++ ([55] ++ ([41] ++ ([32] ++ v)))) := rfl
  rw [e, scan_lx (x := [97, 98]) (by decide +kernel) (go_one (by decide +kernel)), scan_lx (x := [40]) (by decide +kernel) (go_one (by decide +kernel)), scan_lx (x := [55]) (by decide +kernel) (go_one (by decide +kernel)),
    scan_lx (x := [41]) (by decide +kernel) (go_one (by decide +kernel)), scan_gap (g := [32]) v _ (by decide +kernel)]
  have k1 : kindL [97, 98] = "word" := by decide +kernel
  have k2 : kindL [40] = "sign" := by decide +kernel
  have k3 : kindL [55] = "number" := by decide +kernel
  have k4 : kindL [41] = "sign" := by decide +kernel
  rw [k1, k2, k3, k4]
  rfl
theorem scan_rep : ∀ (n : Nat) (v : List Nat) (p : Nat), scan (rep6 n ++ v) p = (TT6 n p ++ (scan v (p + 6 * n)).1, (scan v (p + 6 * n)).2)
  | 0, v, p => rfl
  | n + 1, v, p => by
    have e : rep6 (n + 1) ++ v = blk6 ++ (rep6 n ++ v) := List.append_assoc ..
    have e2 : p + 6 + 6 * n = p + 6 * (n + 1) := by omega
    rw [e, scan_blk, scan_rep n v (p + 6), e2]
    show (T6 p ++ (TT6 n (p + 6) ++ _), _) = ((T6 p ++ TT6 n (p + 6)) ++ _, _)
    rw [List.append_assoc]
theorem rep6_len : ∀ n : Nat, (rep6 n).length = 6 * n
  | 0 => rfl
  | n + 1 => by
    show (blk6 ++ rep6 n).length = _
    rw [List.length_append, rep6_len n]
    show 6 + _ = _
    omega
theorem rep6_asc : ∀ n : Nat, ∀ c ∈ rep6 n, c < 128
  | 0, _, h => nomatch h
  | n + 1, c, h => by
    rcases List.mem_append.mp h with h | h
    · have q : blk6.all (fun c => decide (c < 128)) = true := by decide
      exact of_decide_eq_true ((List.all_eq_true.mp q) c h)
    · exact rep6_asc n c h
theorem TT6_len : ∀ n p : Nat, (TT6 n p).length = 4 * n
  | 0, _ => rfl
  | n + 1, p => by
    show (T6 p ++ TT6 n (p + 6)).length = _
    rw [List.length_append, TT6_len n]
    show 4 + _ = _
    omega
theorem TT6_at : ∀ (n p k : Nat) (w : List Tk), k < n → ((TT6 n p ++ w).drop (4 * k)).take 4 = T6 (p + 6 * k)
  | 0, _, _, _, h => absurd h (Nat.not_lt_zero _)
  | n + 1, p, 0, w, _ => rfl
  | n + 1, p, k + 1, w, h => by
    have e : TT6 (n + 1) p ++ w = T6 p ++ (TT6 n (p + 6) ++ w) := List.append_assoc ..
    have e4 : 4 * (k + 1) = 4 + 4 * k := by omega
    have e6 : p + 6 * (k + 1) = p + 6 + 6 * k := by omega
    rw [e, e4, ← List.drop_drop, e6]
    have d : (T6 p ++ (TT6 n (p + 6) ++ w)).drop 4 = TT6 n (p + 6) ++ w := rfl
    rw [d]
    exact TT6_at n (p + 6) k w (Nat.lt_of_succ_lt_succ h)
def far6 : List Nat := 49 :: List.replicate 39 48
theorem far6_lx : isLx far6 = true ∧ far6.length = 40 ∧ kindL far6 = "number" ∧ far6.all (fun c => decide (c < 128)) = true := by decide +kernel
theorem tail_scan (p : Nat) : scan (far6 ++ [44]) p = ([(("number" : Str), far6, p), (("sign" : Str), [44], p + 40)], none) := by
  have ⟨a, b, c, _⟩ := far6_lx
  have k : kindL [44] = "sign" := by decide +kernel
  have s2 := scan_lx (x := [44]) (v := []) (p := p + 40) (by decide +kernel) rfl
  rw [scan_lx (x := far6) (v := [44]) (p := p) a (by decide +kernel), b, c]
  have s2' : scan [44] (p + 40) = ([(("sign" : Str), [44], p + 40)], none) := by
    rw [k] at s2
    exact s2
  rw [s2']
theorem tail_scanA (p : Nat) : (scan (far6 ++ ([44] ++ [65])) p).2 = some (p + 41) := by
  have ⟨a, b, c, _⟩ := far6_lx
  have s3 : scan [65] (p + 40 + 1) = ([], some (p + 40 + 1)) := by
    rw [scan_none (by decide +kernel) (by decide +kernel)]
  have s2 := scan_lx (x := [44]) (v := [65]) (p := p + 40) (by decide +kernel) (by decide +kernel)
  rw [scan_lx (x := far6) (v := [44] ++ [65]) (p := p) a (by decide +kernel), b]
  show (scan ([44] ++ [65]) (p + 40)).2 = _
  rw [s2]
  show (scan [65] (p + 40 + 1)).2 = _
  rw [s3]
def longN (n : Nat) : List Nat := rep6 n ++ (far6 ++ [44])
theorem longN_scan (n : Nat) : scan (longN n) 0 = (TT6 n 0 ++ [(("number" : Str), far6, 6 * n), (("sign" : Str), [44], 6 * n + 40)], none) := by
  unfold longN
  rw [scan_rep, Nat.zero_add, tail_scan]
theorem longN_scanA (n : Nat) : (scan (longN n ++ [65]) 0).2 = some (6 * n + 41) := by
  unfold longN
  rw [List.append_assoc, List.append_assoc, scan_rep, Nat.zero_add]
  show (scan (far6 ++ ([44] ++ [65])) (6 * n)).2 = _
  rw [tail_scanA]
theorem foldl_cps : ∀ (n : Nat) (x acc : Array Nat), ((List.replicate n x).foldl (· ++ ·) acc).toList = acc.toList ++ (List.replicate n x.toList).flatten
  | 0, x, acc => by simp
  | n + 1, x, acc => by
    rw [List.replicate_succ, List.foldl_cons, foldl_cps n x (acc ++ x), Array.toList_append, List.replicate_succ, List.flatten_cons, List.append_assoc]
theorem rep6_flat : ∀ n : Nat, (List.replicate n blk6).flatten = rep6 n
  | 0 => rfl
  | n + 1 => by rw [List.replicate_succ, List.flatten_cons, rep6_flat n]; rfl
theorem mul_ab (n : Nat) (h : 2 ≤ n) : Txt.mul "ab(7) " (n : Int) = txt (rep6 n) := by
  have e : ("ab(7) " : Str) = txt blk6 := by decide +kernel
  rw [e]
  have l : (txt blk6).length = 6 := rfl
  unfold Txt.mul
  rw [if_neg (by omega), if_neg (by rw [l]; simp; omega)]
  have q := foldl_cps n blk6.toArray #[]
  have e2 : blk6.toArray.toList = blk6 := rfl
  have e3 : (#[] : Array Nat).toList = [] := rfl
  rw [e2, e3, List.nil_append, rep6_flat] at q
  have q' : ((List.replicate ((n : Int)).toNat (txt blk6).cps).foldl (· ++ ·) #[]).toList = rep6 n := q
  show (⟨(List.replicate ((n : Int)).toNat (txt blk6).cps).foldl (· ++ ·) #[]⟩ : Str) = ⟨(rep6 n).toArray⟩
  rw [← q', Array.toArray_toList]
theorem mul_0 : Txt.mul "0" 39 = txt (List.replicate 39 48) := by decide +kernel
end My
namespace My
open PySem PySem.Spec PyProof.Rows L2
/-! ### a text of six thousand lexemes -/
section
variable {X : Cx}
theorem op_repS : OpR X (binaryOp .Mult) (fun x y H Q => ∃ z n, x = .str z ∧ y = .int n ∧ MulOk z n ∧ Q (.str (Txt.mul z n)) H) := by
  intro pins s σ H x y v u Q I rx ry h
  obtain ⟨z, n, rfl, rfl, ok, q⟩ := h
  obtain ⟨t, rfl⟩ := rx
  obtain ⟨t', rfl⟩ := ry
  exact SB.mul ok fun t2 k => ⟨.str _, H, I.tok _, ⟨_, rfl⟩, q⟩
end
def spYes : Sp := fun vs H Q _ => vs = [] ∧ ∀ H', Same H H' → Q (.bl true) H'
theorem Tks.drop {H : Hp} : ∀ {xs : List V} {ts : List Tk} (n : Nat), Tks H xs ts → Tks H (xs.drop n) (ts.drop n)
  | _, _, 0, h => h
  | _, _, _ + 1, .nil => .nil
  | _, _, n + 1, .cons _ h => Tks.drop n h
theorem Tks.take {H : Hp} : ∀ {xs : List V} {ts : List Tk} (n : Nat), Tks H xs ts → Tks H (xs.take n) (ts.take n)
  | _, _, 0, _ => .nil
  | _, _, _ + 1, .nil => .nil
  | _, _, n + 1, .cons e h => .cons e (Tks.take n h)
/-- B: the heap without the list at D that grows -/
structure Off (B M : Hp) (D : Addr) : Prop where
  out : B D = none
  old : Same B M
theorem Off.new {B M : Hp} {D p : Addr} {o : HO} {ys : List V} (h : Off B M D) (e : M D = some (.lst ys)) (hp : M p = none) : Off (L2.upd B p o) (L2.upd M p o) D ∧ Same B (L2.upd B p o) ∧ (L2.upd M p o) D = some (.lst ys) := by
  have n : D ≠ p := ne_of_none e hp
  have bp : B p = none := h.old.free hp
  refine ⟨⟨by rw [upd_ne n]; exact h.out, fun b u q => ?_⟩, same_new bp o, by rw [upd_ne n]; exact e⟩
  by_cases hb : b = p
  · rw [hb, upd_same] at q
    rw [hb, upd_same]; exact q
  · rw [upd_ne hb] at q
    rw [upd_ne hb]; exact h.old _ _ q
theorem Off.mut {B M : Hp} {D : Addr} {o : HO} (h : Off B M D) : Off B (L2.upd M D o) D := ⟨h.out, fun b u q => by
  rw [upd_ne (ne_of_none q h.out)]; exact h.old _ _ q⟩
def dueD (k : Nat) : PyData := .list ((T6 (6 * k)).map tkD)
def dueE (a : Int) : PyData := .list [.tuple [.str "word", .str "ab", .int a], .tuple [.str "sign", .str "(", .int (a + 2)], .tuple [.str "number", .str "7", .int (a + 3)], .tuple [.str "sign", .str ")", .int (a + 4)]]
theorem due_same (k : Nat) : dueE (6 * (0 + (k : Int))) = dueD k := by
  have e0 : (6 * (0 + (k : Int))) = ((6 * k : Nat) : Int) := by omega
  have e2 : (((6 * k : Nat) : Int) + 2) = ((6 * k + 2 : Nat) : Int) := by omega
  have e3 : (((6 * k : Nat) : Int) + 3) = ((6 * k + 3 : Nat) : Int) := by omega
  have e4 : (((6 * k : Nat) : Int) + 4) = ((6 * k + 4 : Nat) : Int) := by omega
  have s1 : ("ab" : Str) = txt [97, 98] := by decide +kernel
  have s2 : ("(" : Str) = txt [40] := by decide +kernel
  have s3 : ("7" : Str) = txt [55] := by decide +kernel
  have s4 : (")" : Str) = txt [41] := by decide +kernel
  unfold dueE
  rw [e0, e2, e3, e4, s1, s2, s3, s4]
  rfl
theorem due_shaped (k : Nat) : SeqAt.shaped (dueD k) = true := by
  have ⟨a, b⟩ := tks_can (ts := T6 (6 * k)) (fun t ht => by
    simp only [T6, List.mem_cons, List.not_mem_nil, or_false] at ht
    rcases ht with rfl | rfl | rfl | rfl
    · exact ⟨by show PyData.strOk ("word" : Str) = true; decide +kernel, by show PyData.strOk (txt [97, 98]) = true; decide +kernel⟩
    · exact ⟨by show PyData.strOk ("sign" : Str) = true; decide +kernel, by show PyData.strOk (txt [40]) = true; decide +kernel⟩
    · exact ⟨by show PyData.strOk ("number" : Str) = true; decide +kernel, by show PyData.strOk (txt [55]) = true; decide +kernel⟩
    · exact ⟨by show PyData.strOk ("sign" : Str) = true; decide +kernel, by show PyData.strOk (txt [41]) = true; decide +kernel⟩)
  exact shaped_list a (by omega)
theorem DpAll.snoc {K : PySem.W.Frag} {H : Hp} {v : V} {d : PyData} (e : Dp K H v d) : ∀ {vs : List V} {ds : List PyData}, DpAll K H vs ds → DpAll K H (vs ++ [v]) (ds ++ [d])
  | _, _, .nil => .cons e .nil
  | _, _, .cons h hs => .cons h (My.DpAll.snoc e hs)
theorem DpAll.get {K : PySem.W.Frag} {H : Hp} : ∀ {vs : List V} {ds : List PyData} {i : Nat} {d : PyData}, DpAll K H vs ds → ds[i]? = some d → ∃ v, vs[i]? = some v ∧ Dp K H v d
  | _, _, 0, _, .cons h _, e => by
    cases e
    exact ⟨_, rfl, h⟩
  | _, _, i + 1, _, .cons _ hs, e => My.DpAll.get (i := i) hs e
theorem cut4 (xs : List V) (i : Nat) (h : 4 * i + 4 ≤ xs.length) : cutV xs (some (4 * (0 + (i : Int)))) (some (4 * (0 + (i : Int)) + 4)) = (xs.drop (4 * i)).take 4 := by
  have e1 : (4 * (0 + (i : Int))) = ((4 * i : Nat) : Int) := by omega
  have e2 : (((4 * i : Nat) : Int) + 4) = ((4 * i + 4 : Nat) : Int) := by omega
  rw [e1, e2]
  show (xs.drop (HT.sIx xs.length 0 (some ((4 * i : Nat) : Int)))).take (HT.sIx xs.length xs.length (some ((4 * i + 4 : Nat) : Int)) - HT.sIx xs.length 0 (some ((4 * i : Nat) : Int))) = _
  rw [HT.sIx_nat, HT.sIx_nat, Nat.min_eq_left h, Nat.min_eq_left (by omega : 4 * i ≤ xs.length), Nat.add_sub_cancel_left]
theorem cut_end (xs : List V) {n : Nat} (h : n ≤ xs.length) : cutV xs (some (n : Int)) none = xs.drop n := by
  show (xs.drop (HT.sIx xs.length 0 (some (n : Int)))).take (xs.length - HT.sIx xs.length 0 (some (n : Int))) = _
  rw [HT.sIx_nat, Nat.min_eq_left h, List.take_of_length_le]
  rw [List.length_drop]; omega
theorem mulok1 : MulOk "ab(7) " 1500 := ⟨by decide, fun _ _ => by decide +kernel, fun _ _ => by decide +kernel⟩
theorem mulok2 : MulOk "0" 39 := ⟨by decide, fun _ _ => by decide +kernel, fun _ _ => by decide +kernel⟩
theorem long_is : Txt.mul "ab(7) " 1500 ++ "1" ++ Txt.mul "0" 39 ++ "," = txt (longN 1500) := by
  have e1 : Txt.mul "ab(7) " 1500 = txt (rep6 1500) := mul_ab 1500 (by decide)
  have s1 : ("1" : Str) = txt [49] := by decide +kernel
  have s2 : ("," : Str) = txt [44] := by decide +kernel
  rw [e1, mul_0, s1, s2, txt_app, txt_app, txt_app]
  unfold longN
  have e : far6 = [49] ++ List.replicate 39 48 := rfl
  rw [e, List.append_assoc, List.append_assoc, List.append_assoc]
theorem far_is : "1" ++ Txt.mul "0" 39 = txt far6 := by
  have s1 : ("1" : Str) = txt [49] := by decide +kernel
  rw [mul_0, s1, txt_app]
  rfl
theorem len_rep : (txt (rep6 1500)).length = 9000 := by rw [txt_len, rep6_len]
theorem small1000' {n : Nat} (h : n ≤ 100000) : n < sizeLine := by rw [sizeLine_eq]; omega
section
variable {P : Program} {w : World} {K : PySem.W.Frag} {mg : Str → Option Value} {base : Heap}
theorem ok_long (T : Tx K mg) : FnOk P w K mg base CX0 7 T.a_law_long_right T.fd_law_long_right [] spYes := by
  refine T.F_law_long_right.ok sc_law_long_right (fun vs H Q E h => ?_) (fun cdv A outer st H vs Q E hr h => ?_)
  · rw [h.1]; rfl
  obtain ⟨rfl, k⟩ := h
  have G_law_told : FnOk P w K mg base CX0 5 T.a_law_told T.fd_law_told ["_law_text"] spTold := ok_told T
  have hr_law_told : Room 5 _ := hr.mono (by decide)
  refine ⟨_, ((pss_cons (ps_asg (pe_tup (pa_cons (pe_op op_add_str (pe_op op_add_str (pe_op op_add_str (pe_op op_repS pe_str pe_int) pe_str) (pe_op op_repS pe_str pe_int)) pe_str) (pa_cons (pe_op op_add_str pe_str (pe_op op_repS pe_str pe_int)) (pa_cons (pe_lst pa_nil) pa_nil)))) (pg_tup rfl (pgs_cons (pg_name (i := 0) sc_law_long_right.nd rfl (Or.inl rfl)) (pgs_cons (pg_name (i := 1) sc_law_long_right.nd rfl (Or.inl rfl)) (pgs_cons (pg_name (i := 2) sc_law_long_right.nd rfl (Or.inr rfl)) pgs_nil)))))
      (pss_cons (ps_for PassesOwn.never rfl (pi_range1 rfl T.n_range (pa_cons pe_int pa_nil)) (pg_name (i := 3) sc_law_long_right.nd rfl (Or.inl rfl))
        (pss_cons (ps_set (i := 4) sc_law_long_right.nd rfl (Or.inl rfl) (pe_op op_mul pe_int (pv 3)))
      (pss_one (ps_expr (pe_bm PySem.F.plainAttrs_list PySem.F.slot_list_append PySem.F.type_list_append mt_append (pv 2) (pa_cons (pe_lst (pa_cons (pe_tup (pa_cons pe_str (pa_cons pe_str (pa_cons (pv 4) pa_nil)))) (pa_cons (pe_tup (pa_cons pe_str (pa_cons pe_str (pa_cons (pe_op op_add (pv 4) pe_int) pa_nil)))) (pa_cons (pe_tup (pa_cons pe_str (pa_cons pe_str (pa_cons (pe_op op_add (pv 4) pe_int) pa_nil)))) (pa_cons (pe_tup (pa_cons pe_str (pa_cons pe_str (pa_cons (pe_op op_add (pv 4) pe_int) pa_nil)))) pa_nil))))) pa_nil))))))
      (pss_cons (ps_set (i := 5) sc_law_long_right.nd rfl (Or.inr rfl) (pe_ix ix_list (pe_call G_law_told hr_law_told rfl T.m_law_told T.F_law_told.kp T.b_law_told .nil pass0 (pa_cons (pv 0) pa_nil)) pe_int (fun _ _ => rfl)))
      (pss_cons (ps_if (PW.pt (pw_or (pt_cmpR (op_neD hr.units) (pe_slice sl_list (pv 5) (po_some pe_int) po_none) (pe_lst (pa_cons (pe_tup (pa_cons pe_str (pa_cons (pv 1) (pa_cons pe_int pa_nil)))) (pa_cons (pe_tup (pa_cons pe_str (pa_cons pe_str (pa_cons pe_int pa_nil)))) pa_nil))) (nomark _)) (pw_or1 (pt_cmpR (op_neD hr.units) (pe_call G_law_told hr_law_told rfl T.m_law_told T.F_law_told.kp T.b_law_told .nil pass0 (pa_cons (pe_op op_add_str (pv 0) pe_str) pa_nil)) (pe_lst (pa_cons pe_str (pa_cons pe_int pa_nil))) (nomark _)))))
        (pss_one (ps_ret pe_bl))
        pss_nil)
      (pss_one (ps_ret (pe_cmpR (op_eqD hr.units) (pe_lc (own := [("_law_k", 3)]) (by rfl) sc_law_long_right.nd (pi_range1 rfl T.n_range (pa_cons pe_int pa_nil)) (blkOk_by (own := [("_law_k", 3)]) (N := ["_law_text", "_law_far", "_law_due", "_law_k", "_law_at", "_law_told_here"]) (sc := defScope s_law_long_right) (by decide +kernel)) (fun _ _ _ _ _ => pg_name (i := 3) sc_law_long_right.nd rfl (Or.inl rfl)) (fun _ _ _ _ _ => (pts_one (pt_cmpR (show OpR _ _ (rNeD K) from op_neD hr.units) (pe_slice (show SlR _ (rSlL K) from sl_list) (pv 5) (po_some (pe_op op_mul pe_int (pv 3))) (po_some (pe_op op_add (pe_op op_mul pe_int (pv 3)) pe_int))) (pe_ix (show IxR _ (rIxL K) from ix_list) (pv 2) (pv 3) (fun _ _ => rfl)) (nomark _)))) (fun _ _ _ _ _ => (pv 3))) (pe_lst pa_nil) (nomark _))))))))), ?_⟩
  have e1 : Txt.mul "ab(7) " 1500 = txt (rep6 1500) := mul_ab 1500 (by decide)
  have l1 : ("1" : Str).length = 1 := rfl
  refine ⟨_, _, rfl, rfl, mulok1, _, _, rfl, rfl, ?_, _, _, rfl, rfl, mulok2, _, _, rfl, rfl, ?_, _, _, rfl, rfl, ?_, _, _, rfl, rfl, mulok2, _, _, rfl, rfl, ?_, Nat.zero_le _, fun D hD => ⟨(by show 3 ≤ sizeLine; decide), fun p0 h0 => ⟨p0, _, rfl, SqT.of upd_same, rfl, _, _, rfl, _, _, rfl, _, _, rfl, rfl, ?_⟩⟩⟩
  · rw [e1, len_rep]; exact sz6 (by decide)
  · rw [mul_0, e1]
    have s1 : ("1" : Str) = txt [49] := by decide +kernel
    rw [s1, txt_app, txt_len, txt_len, List.length_append, rep6_len]; exact sz6 (by decide)
  · rw [mul_0, e1]
    have s1 : ("1" : Str) = txt [49] := by decide +kernel
    rw [s1, txt_app, txt_app, txt_len, List.length_append, List.length_append, rep6_len]; exact sz6 (by decide)
  · rw [mul_0, txt_len]; exact sz6 (by decide)
  rw [long_is, far_is]
  have hL := longN_scan 1500
  have hA := longN_scanA 1500
  have tl := TT6_len 1500 0
  have ta : ∀ (i : Nat) (w : List Tk), i < 1500 → ((TT6 1500 0 ++ w).drop (4 * i)).take 4 = T6 (6 * i) := fun i w hi => by
    have q := TT6_at 1500 0 i w hi
    rw [Nat.zero_add] at q
    exact q
  have lL : (longN 1500).length = 9041 := by
    unfold longN
    rw [List.length_append, rep6_len, List.length_append, far6_lx.2.1]; rfl
  have aL : ∀ c ∈ longN 1500, c < 128 := fun c hc => by
    rcases List.mem_append.mp hc with h | h
    · exact rep6_asc _ c h
    rcases List.mem_append.mp h with h | h
    · exact of_decide_eq_true ((List.all_eq_true.mp far6_lx.2.2.2) c h)
    · rw [List.mem_singleton.mp h]; decide
  have n9 : 6 * 1500 = 9000 := by decide
  have n6 : 4 * 1500 = 6000 := by decide
  rw [n9] at hL hA
  rw [n6] at tl
  generalize longN 1500 = L at hL hA lL aL
  generalize TT6 1500 0 = TS at hL tl ta
  -- what is due
  refine ⟨_, rfl, by decide, by decide, for_range (lo := 0) (n := 1500) (fun i σ M => ∃ (v3 v4 : Option V) (B : Hp) (ys : List V), σ = [some (.str (txt L)), some (.str (txt far6)), some (.ref D), v3, v4, none] ∧ Off B M D ∧ Same H B ∧ M D = some (.lst ys) ∧ ys.length = i ∧ DpAll K B ys ((List.range i).map dueD))
    ⟨none, none, H, [], rfl, ⟨hD, ?_⟩, Same.refl H, ?_, rfl, .nil⟩ ?_ ?_⟩
  · intro b u q
    have nb := ne_of_none q hD
    have q2 : L2.upd H D (.lst []) b = some u := by rw [upd_ne nb]; exact q
    exact same_new h0 _ _ _ q2
  · exact same_new h0 _ _ _ upd_same
  · rintro i σ M hi ⟨v3, v4, B, ys, rfl, off, hB, eD, ly, dp⟩
    refine ⟨_, rfl, _, _, rfl, rfl, .inl ⟨by omega, by omega⟩, ?_⟩
    refine ⟨_, rfl, .inl ⟨rfl, _, SqL.of eD⟩, _, rfl, (by show 3 ≤ sizeLine; decide), fun p1 h1 => ⟨_, rfl, _, _, rfl, rfl, (by show 3 ≤ sizeLine; decide), fun p2 h2 => ⟨_, rfl, _, _, rfl, rfl, (by show 3 ≤ sizeLine; decide), fun p3 h3 => ⟨_, rfl, _, _, rfl, rfl, (by show 3 ≤ sizeLine; decide), fun p4 h4 => ⟨(by show 4 ≤ sizeLine; decide), fun p5 h5 => ?_⟩⟩⟩⟩⟩
    have ⟨o1, s1, d1⟩ := off.new (o := .tup [.str "word", .str "ab", .int (6 * (0 + (i : Int)))]) eD h1
    have ⟨o2, s2, d2⟩ := o1.new (o := .tup [.str "sign", .str "(", .int (6 * (0 + (i : Int)) + 2)]) d1 h2
    have ⟨o3, s3, d3⟩ := o2.new (o := .tup [.str "number", .str "7", .int (6 * (0 + (i : Int)) + 3)]) d2 h3
    have ⟨o4, s4, d4⟩ := o3.new (o := .tup [.str "sign", .str ")", .int (6 * (0 + (i : Int)) + 4)]) d3 h4
    have ⟨o5, s5, d5⟩ := o4.new (o := .lst [.ref p1, .ref p2, .ref p3, .ref p4]) d4 h5
    refine ⟨D, ys, _, rfl, rfl, d5, small1000' (by omega), ?_⟩
    have dnew : Dp K _ (.ref p5) (dueE (6 * (0 + (i : Int)))) := .lst (SqL.of (upd_same (H := L2.upd (L2.upd (L2.upd (L2.upd B p1 (.tup [.str "word", .str "ab", .int (6 * (0 + (i : Int)))])) p2 (.tup [.str "sign", .str "(", .int (6 * (0 + (i : Int)) + 2)])) p3 (.tup [.str "number", .str "7", .int (6 * (0 + (i : Int)) + 3)])) p4 (.tup [.str "sign", .str ")", .int (6 * (0 + (i : Int)) + 4)])) (a := p5) (o := .lst [.ref p1, .ref p2, .ref p3, .ref p4])))
      (.cons (.tup (SqT.of ((((s2.trans s3).trans s4).trans s5) _ _ upd_same)) (.cons (.str _) (.cons (.str _) (.cons (.int _) .nil))))
      (.cons (.tup (SqT.of (((s3.trans s4).trans s5) _ _ upd_same)) (.cons (.str _) (.cons (.str _) (.cons (.int _) .nil))))
      (.cons (.tup (SqT.of ((s4.trans s5) _ _ upd_same)) (.cons (.str _) (.cons (.str _) (.cons (.int _) .nil))))
      (.cons (.tup (SqT.of (s5 _ _ upd_same)) (.cons (.str _) (.cons (.str _) (.cons (.int _) .nil)))) .nil))))
    rw [due_same] at dnew
    have s15 := (((s1.trans s2).trans s3).trans s4).trans s5
    refine ⟨_, _, _, ys ++ [.ref p5], rfl, o5.mut, hB.trans s15, upd_same, by rw [List.length_append, ly]; rfl, ?_⟩
    rw [List.range_succ, List.map_append]
    exact My.DpAll.snoc dnew (My.DpAll.same s15 dp)
  rintro σ M ⟨v3, v4, B, ys, rfl, off, hB, eD, ly, dp⟩
  have ltx : (txt L).length ≤ 100000 := by rw [txt_len]; omega
  -- told
  refine ⟨_, rfl, ?_⟩
  simp only [tNil]
  refine tell ltx fun a M1 s1 ha res => ?_
  have eD1 := s1 _ _ eD
  rcases (res D (some_ne eD)).is with ⟨en, f, xs, nfD, _, ea, ef, tk⟩ | ⟨q, eq, _⟩
  case inr =>
    have eq : (scan L 0).2 = some q := eq
    rw [hL] at eq; cases eq
  have tk : Tks M1 xs (scan L 0).1 := tk
  rw [hL] at tk
  have lxs : xs.length = 6002 := by rw [tk.length, List.length_append, tl]; rfl
  refine ⟨a, _, _, _, rfl, rfl, SqL.of ea, atI_nat (j := 1) rfl, ?_⟩
  -- its end
  refine ⟨_, rfl, _, rfl, f, _, rfl, SqL.of ef, fun p2 h2 => ?_⟩
  have c6 : cutV xs (some (6000 : Int)) none = xs.drop 6000 := cut_end xs (n := 6000) (by omega)
  rw [c6]
  have s2 := same_new h2 (.lst (xs.drop 6000))
  refine ⟨_, rfl, (by show 3 ≤ sizeLine; decide), fun q1 k1 => ⟨(by show 3 ≤ sizeLine; decide), fun q2 k2 => ⟨(by show 2 ≤ sizeLine; decide), fun q3 k3 => ?_⟩⟩⟩
  have t1 := same_new k1 (.tup [.str "number", .str (txt far6), .int 9000])
  have t2 := same_new k2 (.tup [.str "sign", .str ",", .int 9040])
  have t3 := same_new k3 (.lst [.ref q1, .ref q2])
  have dr : (TS ++ [(("number" : Str), far6, 9000), (("sign" : Str), [44], 9000 + 40)]).drop 6000 = [(("number" : Str), far6, 9000), (("sign" : Str), [44], 9040)] := by
    rw [List.drop_left' tl]
  have dd : PyData.list [.tuple [.str "number", .str (txt far6), .int 9000], .tuple [.str "sign", .str ",", .int 9040]] = .list (([(("number" : Str), far6, 9000), (("sign" : Str), [44], 9040)] : List Tk).map tkD) := by
    have s2 : ("," : Str) = txt [44] := by decide +kernel
    rw [s2]; rfl
  have d1 : Dp K _ (.ref p2) (.list (([(("number" : Str), far6, 9000), (("sign" : Str), [44], 9040)] : List Tk).map tkD)) := .lst (SqL.of (((t1.trans t2).trans t3) _ _ upd_same)) (by rw [← dr]; exact ((tk.drop 6000).same (((s2.trans t1).trans t2).trans t3)).dp)
  have d2 : Dp K _ (.ref q3) (.list [.tuple [.str "number", .str (txt far6), .int 9000], .tuple [.str "sign", .str ",", .int 9040]]) := .lst (SqL.of upd_same)
    (.cons (.tup (SqT.of ((t2.trans t3) _ _ upd_same)) (.cons (.str _) (.cons (.str _) (.cons (.int _) .nil)))) (.cons (.tup (SqT.of (t3 _ _ upd_same)) (.cons (.str _) (.cons (.str _) (.cons (.int _) .nil)))) .nil))
  rw [dd] at d2
  have sh : SeqAt.shaped (.list (([(("number" : Str), far6, 9000), (("sign" : Str), [44], 9040)] : List Tk).map tkD)) = true := by
    have ⟨x, y⟩ := tks_can (ts := [(("number" : Str), far6, 9000), (("sign" : Str), [44], 9040)]) (fun t ht => by
      simp only [List.mem_cons, List.not_mem_nil, or_false] at ht
      rcases ht with rfl | rfl
      · exact ⟨by show PyData.strOk ("number" : Str) = true; decide +kernel, by show PyData.strOk (txt far6) = true; decide +kernel⟩
      · exact ⟨by show PyData.strOk ("sign" : Str) = true; decide +kernel, by show PyData.strOk (txt [44]) = true; decide +kernel⟩)
    exact shaped_list x (by omega)
  refine ⟨_, _, d1, d2, sh, sh, ?_⟩
  rw [eqv_same sh]
  -- with one sign more
  have sA : ("A" : Str) = txt [65] := by decide +kernel
  refine ⟨_, rfl, _, rfl, _, _, rfl, rfl, ?_, ?_⟩
  · rw [sA, txt_len, txt_len, lL]; exact sz6 (by decide)
  rw [sA, txt_app]
  simp only [tNil]
  have t13 := ((s2.trans t1).trans t2).trans t3
  refine tell (by rw [txt_len, List.length_append, lL]; decide) fun a2 M2 s3 ha2 res2 => ?_
  have eD2 := s3 _ _ (t13 _ _ eD1)
  have r2 : Res M2 D a2 (L ++ [65]) := res2 D (some_ne (t13 _ _ eD1))
  have hA' : (scan (L ++ [65]) 0).2 = some 9041 := hA
  have d3 : Dp K M2 (.ref a2) (.list [.str "refused", .int 9041]) := by
    rcases r2.is with ⟨e, _⟩ | ⟨q, e, eaq⟩
    · rw [hA'] at e; cases e
    · rw [hA'] at e
      cases e
      exact .lst (SqL.of eaq) (.cons (.str _) (.cons (.int _) .nil))
  refine ⟨(by show 2 ≤ sizeLine; decide), fun q4 k4 => ?_⟩
  have t4 := same_new k4 (.lst [.str "refused", .int 9041])
  have sh2 : SeqAt.shaped (.list [.str "refused", .int 9041]) = true := by decide +kernel
  refine ⟨_, _, My.Dp.same t4 d3, Dp.lst (SqL.of upd_same) (.cons (.str _) (.cons (.int _) .nil)), sh2, sh2, ?_⟩
  rw [eqv_same sh2]
  refine ⟨_, rfl, ?_⟩
  -- all the others
  have sAll := (t13.trans s3).trans t4
  have ef5 := sAll _ _ ef
  have eD5 := t4 _ _ eD2
  have tk5 := tk.same sAll
  have off5 : ∀ b u, B b = some u → _ := fun b u q => sAll b u (s1 _ _ (off.old b u q))
  have dp5 := My.DpAll.same off5 dp
  refine ⟨_, rfl, by decide, by decide, fun E5 hE => ?_⟩
  refine lc_range (lo := 0) (n := 1500) (fun i M' => Same (L2.upd M2 q4 (.lst [.str "refused", .int 9041])) M' ∧ M' E5 = some (.lst [])) ⟨same_new hE _, upd_same⟩ ?_ ?_
  · rintro i M' hi ⟨sM, eE⟩
    refine ⟨rfl, ?_⟩
    refine ⟨_, rfl, _, rfl, _, _, rfl, rfl, .inl ⟨by omega, by omega⟩, _, rfl, _, rfl, _, _, rfl, rfl, .inl ⟨by omega, by omega⟩, _, _, rfl, rfl, _, rfl, f, _, rfl, SqL.of (sM _ _ ef5), fun p hp => ?_⟩
    rw [cut4 xs i (by omega)]
    have sp := same_new hp (.lst ((xs.drop (4 * i)).take 4))
    have ei : (0 + (i : Int)) = (i : Int) := by omega
    have hdi : ((List.range 1500).map dueD)[i]? = some (dueD i) := by
      rw [List.getElem?_map, List.getElem?_range hi]; rfl
    obtain ⟨v, hv, dv⟩ := My.DpAll.get dp5 hdi
    have hat : atI ys (0 + (i : Int)) = some v := by rw [ei]; exact atI_nat hv
    refine ⟨_, rfl, _, rfl, D, ys, _, v, rfl, rfl, SqL.of (sp _ _ (sM _ _ eD5)), hat, ?_⟩
    have da : Dp K (L2.upd M' p (.lst ((xs.drop (4 * i)).take 4))) (.ref p) (dueD i) := .lst (SqL.of upd_same) (by
      rw [← ta i _ hi]
      exact (((tk5.same sM).same sp).drop (4 * i)).take 4 |>.dp)
    refine ⟨_, _, da, My.Dp.same (sM.trans sp) dv, due_shaped i, due_shaped i, ?_⟩
    rw [eqv_same (due_shaped i)]
    exact ⟨_, rfl, sM.trans sp, sp _ _ eE⟩
  · rintro M' ⟨sM, eE⟩
    refine ⟨Nat.zero_le _, fun p hp => ?_⟩
    have sp := same_new hp (.lst [])
    refine ⟨_, _, Dp.lst (SqL.of (sp _ _ eE)) .nil, Dp.lst (SqL.of upd_same) .nil, rfl, rfl, ?_⟩
    have ez : PyData.eqv (.list []) (.list []) = true := rfl
    rw [ez]
    refine k _ ?_
    intro b u q
    exact sp _ _ (sM _ _ (sAll _ _ (s1 _ _ (off.old _ _ (hB _ _ q)))))
end
end My
namespace My
open PySem PySem.Spec PyProof.Rows L2
/-! ### texts by hand -/
theorem tell0 {K : PySem.W.Frag} {z : Str} {H : Hp} {Q : VK} {E : XK} (hz : z.length ≤ 100000) (h : ∀ (a : Addr) (H' : Hp), Same H H' → Dp K H' (.ref a) (resD z.cps.toList) → Q (.ref a) H') : spTold [.str z] H Q E := by
  refine ⟨z, rfl, hz, fun e a f xs H' s ha hf nn ea ef tk => h a H' s ?_, fun q e a H' s ha ea => h a H' s ?_⟩
  · exact Res.dp (b := a + f + 1) ⟨Nat.ne_of_lt (Nat.lt_succ_of_le (Nat.le_add_right a f)), .inl ⟨e, f, xs, Nat.ne_of_lt (Nat.lt_succ_of_le (Nat.le_add_left f a)), nn.symm, ea, ef, tk⟩⟩
  · exact Res.dp (b := a + 1) ⟨Nat.ne_of_lt (Nat.lt_succ_self a), .inr ⟨q, e, ea⟩⟩
inductive RAll (H : Hp) (b : Addr) : List V → List (List Nat) → Prop
  | nil : RAll H b [] []
  | cons {a : Addr} {l : List Nat} {xs : List V} {ls : List (List Nat)} (r : Res H b a l) (h : RAll H b xs ls) : RAll H b (.ref a :: xs) (l :: ls)
theorem RAll.snoc {H : Hp} {b a : Addr} {l : List Nat} (r : Res H b a l) : ∀ {xs : List V} {ls : List (List Nat)}, RAll H b xs ls → RAll H b (xs ++ [.ref a]) (ls ++ [l])
  | _, _, .nil => .cons r .nil
  | _, _, .cons q h => .cons q (h.snoc r)
theorem RAll.same {H H' : Hp} {b : Addr} (s : Same H H') : ∀ {xs : List V} {ls : List (List Nat)}, RAll H b xs ls → RAll H' b xs ls
  | _, _, .nil => .nil
  | _, _, .cons q h => .cons (q.same s) (h.same s)
theorem RAll.upd {H : Hp} {b : Addr} {ys zs : List V} (e : H b = some (.lst ys)) : ∀ {xs : List V} {ls : List (List Nat)}, RAll H b xs ls → RAll (L2.upd H b (.lst zs)) b xs ls
  | _, _, .nil => .nil
  | _, _, .cons q h => .cons (q.upd e) (h.upd e)
theorem RAll.dp {K : PySem.W.Frag} {H : Hp} {b : Addr} : ∀ {xs : List V} {ls : List (List Nat)}, RAll H b xs ls → DpAll K H xs (ls.map resD)
  | _, _, .nil => .nil
  | _, _, .cons q h => .cons q.dp h.dp
theorem RAll.length {H : Hp} {b : Addr} : ∀ {xs : List V} {ls : List (List Nat)}, RAll H b xs ls → xs.length = ls.length
  | _, _, .nil => rfl
  | _, _, .cons _ h => congrArg (· + 1) h.length
def refD (q : Int) : PyData := .list [.str "refused", .int q]
def okp (z : Str) (q : Int) : Bool := decide (z.length ≤ 100000) && PyData.eqv (resD z.cps.toList) (refD q) && SeqAt.shaped (resD z.cps.toList) && SeqAt.shaped (refD q)
structure OkP (z : Str) (q : Int) : Prop where
  le : z.length ≤ 100000
  eq : PyData.eqv (resD z.cps.toList) (refD q) = true
  s1 : SeqAt.shaped (resD z.cps.toList) = true
  s2 : SeqAt.shaped (refD q) = true
theorem okp_ok {z : Str} {q : Int} (h : okp z q = true) : OkP z q := by
  unfold okp at h
  rw [Bool.and_eq_true, Bool.and_eq_true, Bool.and_eq_true, decide_eq_true_iff] at h
  exact ⟨h.1.1.1, h.1.1.2, h.1.2, h.2⟩
def Pr (M : Hp) (x : V) : Prop := ∃ p z q, x = .ref p ∧ M p = some (.tup [.str z, .int q]) ∧ OkP z q
theorem Pr.mk {M : Hp} {p : Addr} {z : Str} {q : Int} (e : M p = some (.tup [.str z, .int q])) (h : okp z q = true) : Pr M (.ref p) := ⟨p, z, q, rfl, e, okp_ok h⟩
theorem Pr.same {M M' : Hp} {x : V} (s : Same M M') (h : Pr M x) : Pr M' x := by
  obtain ⟨p, z, q, a, b, c⟩ := h
  exact ⟨p, z, q, a, s _ _ b, c⟩
theorem mem_cons_all {α : Type} {p : α → Prop} {x : α} {xs : List α} (h : p x) (t : ∀ y ∈ xs, p y) : ∀ y ∈ x :: xs, p y := List.forall_mem_cons.mpr ⟨h, t⟩
theorem dp_ref {K : PySem.W.Frag} {H : Hp} {r : Addr} {q : Int} (h : H r = some (.lst [.str "refused", .int q])) : Dp K H (.ref r) (refD q) := .lst (SqL.of h) (.cons (.str _) (.cons (.int _) .nil))
def dueH : List PyData := [.tuple [.str "number", .str "12", .int 0], .tuple [.str "word", .str "ab", .int 2], .tuple [.str "number", .str "0", .int 5], .tuple [.str "number", .str "0", .int 6], .tuple [.str "number", .str "7", .int 7]]
def expH : PyData := .list [.list [.str "told", .list dueH], .list [.str "told", .list []], .list [.str "told", .list []]]
def textsH : List (List Nat) := (["12ab 007", "", " \n "] : List Str).map fun z => z.cps.toList
theorem h1_eq : PyData.eqv (.list (textsH.map resD)) expH = true ∧ SeqAt.shaped (.list (textsH.map resD)) = true ∧ SeqAt.shaped expH = true := by decide +kernel
theorem h1_txt : [V.str "12ab 007", .str "", .str " \n "] = textsH.map txtV := by decide +kernel
def wordsH : List (List Nat) := (["abcdefghijkl", "mnopqrstuvwx", "yz0123456789", "a1b", "x0y", "q", "v7v"] : List Str).map fun z => z.cps.toList
theorem wordsH_is : [V.str "abcdefghijkl", .str "mnopqrstuvwx", .str "yz0123456789", .str "a1b", .str "x0y", .str "q", .str "v7v"] = wordsH.map txtV := by decide +kernel
theorem len_app (a b : Str) : (a ++ b).length = a.length + b.length := by
  show (a.cps ++ b.cps).size = a.cps.size + b.cps.size
  rw [Array.size_append]
abbrev oddS : Str := "!\"#$&'*+-./:<=>?\x40[\\]^_`|~ABCDEFGHIJKLMNOPQRSTUVWXYZ" ++ "\t"
theorem signs_ok : ∀ c ∈ oddS.cps.toList, okp ("ab 1" ++ ⟨#[c]⟩ ++ "o") 4 = true ∧ okp ("ab" ++ ⟨#[c]⟩) 2 = true := by
  have q : oddS.cps.toList.all (fun c => okp ("ab 1" ++ ⟨#[c]⟩ ++ "o") 4 && okp ("ab" ++ ⟨#[c]⟩) 2) = true := by decide +kernel
  intro c hc
  have z := (List.all_eq_true.mp q) c hc
  rw [Bool.and_eq_true] at z
  exact z
def wd1 (l : List Nat) : PyData := .list [.str "told", .list [.tuple [.str "word", .str (txt l), .int 0]]]
def wd2 (l : List Nat) : PyData := .list [.str "told", .list [.tuple [.str "word", .str (txt l), .int 1], .tuple [.str "sign", .str ";", .int (1 + ((txt l).length : Int))]]]
structure WOk (l : List Nat) : Prop where
  le : l.length ≤ 100
  e1 : PyData.eqv (resD (txt l).cps.toList) (wd1 l) = true
  s1 : SeqAt.shaped (resD (txt l).cps.toList) = true
  t1 : SeqAt.shaped (wd1 l) = true
  e2 : PyData.eqv (resD (" " ++ txt l ++ ";" : Str).cps.toList) (wd2 l) = true
  s2 : SeqAt.shaped (resD (" " ++ txt l ++ ";" : Str).cps.toList) = true
  t2 : SeqAt.shaped (wd2 l) = true
theorem words_ok : ∀ l ∈ wordsH, WOk l := by
  have q : wordsH.all (fun l => decide (l.length ≤ 100) && (PyData.eqv (resD (txt l).cps.toList) (wd1 l) && SeqAt.shaped (resD (txt l).cps.toList) && SeqAt.shaped (wd1 l)) && (PyData.eqv (resD (" " ++ txt l ++ ";" : Str).cps.toList) (wd2 l) && SeqAt.shaped (resD (" " ++ txt l ++ ";" : Str).cps.toList) && SeqAt.shaped (wd2 l))) = true := by decide +kernel
  intro l hl
  have z := (List.all_eq_true.mp q) l hl
  rw [Bool.and_eq_true, Bool.and_eq_true, Bool.and_eq_true, Bool.and_eq_true, Bool.and_eq_true, Bool.and_eq_true, decide_eq_true_iff] at z
  exact ⟨z.1.1, z.1.2.1.1, z.1.2.1.2, z.1.2.2, z.2.1.1, z.2.1.2, z.2.2⟩
def lastD : List PyData := [.tuple [.str "word", .str "p", .int 0], .tuple [.str "sign", .str "(", .int 1], .tuple [.str "number", .str "2", .int 2], .tuple [.str "word", .str "a", .int 3], .tuple [.str "sign", .str ")", .int 4],
  .tuple [.str "word", .str "to", .int 5], .tuple [.str "sign", .str ";", .int 7], .tuple [.str "sign", .str "{", .int 8], .tuple [.str "sign", .str "}", .int 9], .tuple [.str "sign", .str ",", .int 10]]
theorem last_eq : PyData.eqv (resD ("p(2a)to;{}," : Str).cps.toList) (.list [.str "told", .list lastD]) = true ∧ SeqAt.shaped (resD ("p(2a)to;{}," : Str).cps.toList) = true ∧ SeqAt.shaped (.list [.str "told", .list lastD]) = true := by decide +kernel
section
variable {P : Program} {w : World} {K : PySem.W.Frag} {mg : Str → Option Value} {base : Heap}
theorem ok_hand (T : Tx K mg) : FnOk P w K mg base CX0 7 T.a_law_hand_right T.fd_law_hand_right [] spYes := by
  refine T.F_law_hand_right.ok sc_law_hand_right (fun vs H Q E h => ?_) (fun cdv A outer st H vs Q E hr h => ?_)
  · rw [h.1]; rfl
  obtain ⟨rfl, k⟩ := h
  have G_law_told : FnOk P w K mg base CX0 5 T.a_law_told T.fd_law_told ["_law_text"] spTold := ok_told T
  have hr_law_told : Room 5 _ := hr.mono (by decide)
  refine ⟨_, ((pss_cons (ps_set (i := 0) sc_law_hand_right.nd rfl (Or.inl rfl) (pe_lst (pa_cons (pe_tup (pa_cons pe_str (pa_cons pe_str (pa_cons pe_int pa_nil)))) (pa_cons (pe_tup (pa_cons pe_str (pa_cons pe_str (pa_cons pe_int pa_nil)))) (pa_cons (pe_tup (pa_cons pe_str (pa_cons pe_str (pa_cons pe_int pa_nil)))) (pa_cons (pe_tup (pa_cons pe_str (pa_cons pe_str (pa_cons pe_int pa_nil)))) (pa_cons (pe_tup (pa_cons pe_str (pa_cons pe_str (pa_cons pe_int pa_nil)))) pa_nil)))))))
      (pss_cons (ps_if (pt_cmpR (op_neD hr.units) (pe_lc (own := [("_law_text", 4)]) (by rfl) sc_law_hand_right.nd (pi_list (pe_lst (pa_cons pe_str (pa_cons pe_str (pa_cons pe_str pa_nil))))) (blkOk_by (own := [("_law_text", 4)]) (N := ["_law_due", "_law_some", "_law_sign", "_law_word", "_law_text", "_law_place"]) (sc := defScope s_law_hand_right) (by decide +kernel)) (fun _ _ _ _ _ => pg_name (i := 4) sc_law_hand_right.nd rfl (Or.inl rfl)) (fun _ _ _ _ _ => pts_nil) (fun _ _ _ _ _ => (pe_call G_law_told hr_law_told rfl T.m_law_told T.F_law_told.kp T.b_law_told .nil pass0 (pa_cons (pv 4) pa_nil)))) (pe_lst (pa_cons (pe_lst (pa_cons pe_str (pa_cons (pv 0) pa_nil))) (pa_cons (pe_lst (pa_cons pe_str (pa_cons (pe_lst pa_nil) pa_nil))) (pa_cons (pe_lst (pa_cons pe_str (pa_cons (pe_lst pa_nil) pa_nil))) pa_nil)))) (nomark _))
        (pss_one (ps_ret pe_bl))
        pss_nil)
      (pss_cons (ps_set (i := 1) sc_law_hand_right.nd rfl (Or.inl rfl) (pe_lst (pa_cons (pe_tup (pa_cons pe_str (pa_cons pe_int pa_nil))) (pa_cons (pe_tup (pa_cons pe_str (pa_cons pe_int pa_nil))) (pa_cons (pe_tup (pa_cons pe_str (pa_cons pe_int pa_nil))) (pa_cons (pe_tup (pa_cons pe_str (pa_cons pe_int pa_nil))) (pa_cons (pe_tup (pa_cons pe_str (pa_cons pe_int pa_nil))) (pa_cons (pe_tup (pa_cons pe_str (pa_cons pe_int pa_nil))) (pa_cons (pe_tup (pa_cons pe_str (pa_cons pe_int pa_nil))) pa_nil)))))))))
      (pss_cons (ps_if (pt_cmpR (op_neD hr.units) (pe_lc (own := [("_law_text", 4), ("_law_place", 5)]) (by rfl) sc_law_hand_right.nd (pi_list (pe_op op_cat (pv 1) (pe_lst (pa_cons (pe_tup (pa_cons pe_str (pa_cons pe_int pa_nil))) (pa_cons (pe_tup (pa_cons pe_str (pa_cons pe_int pa_nil))) (pa_cons (pe_tup (pa_cons pe_str (pa_cons pe_int pa_nil))) pa_nil)))))) (blkOk_by (own := [("_law_text", 4), ("_law_place", 5)]) (N := ["_law_due", "_law_some", "_law_sign", "_law_word", "_law_text", "_law_place"]) (sc := defScope s_law_hand_right) (by decide +kernel)) (fun _ _ _ _ _ => show PG _ _ (gTup K 2 (gCons (gName 4) (gCons (gName 5) gNil))) from (pg_tup rfl (pgs_cons (pg_name (i := 4) sc_law_hand_right.nd rfl (Or.inl rfl)) (pgs_cons (pg_name (i := 5) sc_law_hand_right.nd rfl (Or.inl rfl)) pgs_nil)))) (fun _ _ _ _ _ => (pts_one (pt_cmpR (show OpR _ _ (rNeD K) from op_neD hr.units) (pe_call G_law_told hr_law_told rfl T.m_law_told T.F_law_told.kp T.b_law_told .nil pass0 (pa_cons (pv 4) pa_nil)) (pe_lst (pa_cons pe_str (pa_cons (pv 5) pa_nil))) (nomark _)))) (fun _ _ _ _ _ => pe_int)) (pe_lst pa_nil) (nomark _))
        (pss_one (ps_ret pe_bl))
        pss_nil)
      (pss_cons (ps_for PassesOwn.never rfl (pi_str (pe_op op_add_str pe_str pe_str)) (pg_name (i := 2) sc_law_hand_right.nd rfl (Or.inl rfl))
        (pss_one (ps_if (PW.pt (pw_or (pt_cmpR (op_neD hr.units) (pe_call G_law_told hr_law_told rfl T.m_law_told T.F_law_told.kp T.b_law_told .nil pass0 (pa_cons (pe_op op_add_str (pe_op op_add_str pe_str (pv 2)) pe_str) pa_nil)) (pe_lst (pa_cons pe_str (pa_cons pe_int pa_nil))) (nomark _)) (pw_or1 (pt_cmpR (op_neD hr.units) (pe_call G_law_told hr_law_told rfl T.m_law_told T.F_law_told.kp T.b_law_told .nil pass0 (pa_cons (pe_op op_add_str pe_str (pv 2)) pa_nil)) (pe_lst (pa_cons pe_str (pa_cons pe_int pa_nil))) (nomark _)))))
        (pss_one (ps_ret pe_bl))
        pss_nil)))
      (pss_cons (ps_for PassesOwn.never rfl (pi_list (pe_lst (pa_cons pe_str (pa_cons pe_str (pa_cons pe_str (pa_cons pe_str (pa_cons pe_str (pa_cons pe_str (pa_cons pe_str pa_nil))))))))) (pg_name (i := 3) sc_law_hand_right.nd rfl (Or.inl rfl))
        (pss_cons (ps_set (i := 0) sc_law_hand_right.nd rfl (Or.inl rfl) (pe_lst (pa_cons (pe_tup (pa_cons pe_str (pa_cons (pv 3) (pa_cons pe_int pa_nil)))) (pa_cons (pe_tup (pa_cons pe_str (pa_cons pe_str (pa_cons (pe_op op_add pe_int (pe_callB call_len_str (by rfl) T.n_len (by decide +kernel) (pa_cons (pv 3) pa_nil))) pa_nil)))) pa_nil))))
      (pss_one (ps_if (PW.pt (pw_or (pt_cmpR (op_neD hr.units) (pe_call G_law_told hr_law_told rfl T.m_law_told T.F_law_told.kp T.b_law_told .nil pass0 (pa_cons (pv 3) pa_nil)) (pe_lst (pa_cons pe_str (pa_cons (pe_lst (pa_cons (pe_tup (pa_cons pe_str (pa_cons (pv 3) (pa_cons pe_int pa_nil)))) pa_nil)) pa_nil))) (nomark _)) (pw_or1 (pt_cmpR (op_neD hr.units) (pe_call G_law_told hr_law_told rfl T.m_law_told T.F_law_told.kp T.b_law_told .nil pass0 (pa_cons (pe_op op_add_str (pe_op op_add_str pe_str (pv 3)) pe_str) pa_nil)) (pe_lst (pa_cons pe_str (pa_cons (pv 0) pa_nil))) (nomark _)))))
        (pss_one (ps_ret pe_bl))
        pss_nil))))
      (pss_cons (ps_set (i := 0) sc_law_hand_right.nd rfl (Or.inl rfl) (pe_lst (pa_cons (pe_tup (pa_cons pe_str (pa_cons pe_str (pa_cons pe_int pa_nil)))) (pa_cons (pe_tup (pa_cons pe_str (pa_cons pe_str (pa_cons pe_int pa_nil)))) (pa_cons (pe_tup (pa_cons pe_str (pa_cons pe_str (pa_cons pe_int pa_nil)))) (pa_cons (pe_tup (pa_cons pe_str (pa_cons pe_str (pa_cons pe_int pa_nil)))) (pa_cons (pe_tup (pa_cons pe_str (pa_cons pe_str (pa_cons pe_int pa_nil)))) pa_nil)))))))
      (pss_cons (ps_set (i := 0) sc_law_hand_right.nd rfl (Or.inl rfl) (pe_op op_cat (pv 0) (pe_lst (pa_cons (pe_tup (pa_cons pe_str (pa_cons pe_str (pa_cons pe_int pa_nil)))) (pa_cons (pe_tup (pa_cons pe_str (pa_cons pe_str (pa_cons pe_int pa_nil)))) (pa_cons (pe_tup (pa_cons pe_str (pa_cons pe_str (pa_cons pe_int pa_nil)))) (pa_cons (pe_tup (pa_cons pe_str (pa_cons pe_str (pa_cons pe_int pa_nil)))) (pa_cons (pe_tup (pa_cons pe_str (pa_cons pe_str (pa_cons pe_int pa_nil)))) pa_nil))))))))
      (pss_one (ps_ret (pe_cmpR (op_eqD hr.units) (pe_call G_law_told hr_law_told rfl T.m_law_told T.F_law_told.kp T.b_law_told .nil pass0 (pa_cons pe_str pa_nil)) (pe_lst (pa_cons pe_str (pa_cons (pv 0) pa_nil))) (nomark _))))))))))))), ?_⟩
  -- the first three
  refine ⟨(by show 3 ≤ sizeLine; decide), fun t1 h1 => ⟨(by show 3 ≤ sizeLine; decide), fun t2 h2 => ⟨(by show 3 ≤ sizeLine; decide), fun t3 h3 => ⟨(by show 3 ≤ sizeLine; decide), fun t4 h4 => ⟨(by show 3 ≤ sizeLine; decide), fun t5 h5 => ⟨(by show 5 ≤ sizeLine; decide), fun d0 h6 => ?_⟩⟩⟩⟩⟩⟩
  have s1 := same_new h1 (.tup [.str "number", .str "12", .int 0])
  have s2 := same_new h2 (.tup [.str "word", .str "ab", .int 2])
  have s3 := same_new h3 (.tup [.str "number", .str "0", .int 5])
  have s4 := same_new h4 (.tup [.str "number", .str "0", .int 6])
  have s5 := same_new h5 (.tup [.str "number", .str "7", .int 7])
  have s6 := same_new h6 (.lst [.ref t1, .ref t2, .ref t3, .ref t4, .ref t5])
  have tup3 : ∀ {M : Hp} {p : Addr} {a b : Str} {i : Int}, M p = some (.tup [.str a, .str b, .int i]) → Dp K M (.ref p) (.tuple [.str a, .str b, .int i]) := fun e => .tup (SqT.of e) (.cons (.str _) (.cons (.str _) (.cons (.int _) .nil)))
  have dD : Dp K _ (.ref d0) (.list dueH) := .lst (SqL.of (upd_same (H := L2.upd (L2.upd (L2.upd (L2.upd (L2.upd H t1 (.tup [.str "number", .str "12", .int 0])) t2 (.tup [.str "word", .str "ab", .int 2])) t3 (.tup [.str "number", .str "0", .int 5])) t4 (.tup [.str "number", .str "0", .int 6])) t5 (.tup [.str "number", .str "7", .int 7])) (a := d0) (o := .lst [.ref t1, .ref t2, .ref t3, .ref t4, .ref t5])))
    (.cons (tup3 (((((s2.trans s3).trans s4).trans s5).trans s6) _ _ upd_same)) (.cons (tup3 ((((s3.trans s4).trans s5).trans s6) _ _ upd_same)) (.cons (tup3 (((s4.trans s5).trans s6) _ _ upd_same)) (.cons (tup3 ((s5.trans s6) _ _ upd_same)) (.cons (tup3 (s6 _ _ upd_same)) .nil)))))
  have sH : Same H _ := ((((s1.trans s2).trans s3).trans s4).trans s5).trans s6
  generalize L2.upd (L2.upd (L2.upd (L2.upd (L2.upd (L2.upd H t1 (.tup [.str "number", .str "12", .int 0])) t2 (.tup [.str "word", .str "ab", .int 2])) t3 (.tup [.str "number", .str "0", .int 5])) t4 (.tup [.str "number", .str "0", .int 6])) t5 (.tup [.str "number", .str "7", .int 7])) d0 (.lst [.ref t1, .ref t2, .ref t3, .ref t4, .ref t5]) = M0 at dD sH
  refine ⟨(by show 3 ≤ sizeLine; decide), fun p1 k1 => ?_⟩
  rw [h1_txt]
  have u1 := same_new k1 (.lst (textsH.map txtV))
  refine ⟨p1, rfl, ⟨_, SqL.of upd_same⟩, fun D hD => ?_⟩
  refine lc_list (K := K) (a := p1) (xs := textsH.map txtV) (fun i M => Same (L2.upd M0 p1 (.lst (textsH.map txtV))) M ∧ ∃ ys, M D = some (.lst ys) ∧ RAll M D ys (textsH.take i)) ⟨same_new hD _, [], upd_same, .nil⟩ (fun i M _ z => SqL.of (z.1 _ _ upd_same)) ?_ ?_
  · rintro i v M hv ⟨sM, ys, eD, ra⟩
    obtain ⟨l, hl, rfl⟩ : ∃ l, textsH[i]? = some l ∧ v = txtV l := by
      rw [List.getElem?_map] at hv
      cases e : textsH[i]? with
      | none => rw [e] at hv; cases hv
      | some l => rw [e] at hv; exact ⟨l, rfl, (Option.some.inj hv).symm⟩
    have hil : i < textsH.length := (List.getElem?_eq_some_iff.mp hl).1
    have eil : textsH[i] = l := (List.getElem?_eq_some_iff.mp hl).2
    have l3 : textsH.length = 3 := rfl
    have ll : l.length ≤ 100000 := by
      have q : textsH.all (fun l => decide (l.length ≤ 100000)) = true := by decide +kernel
      exact of_decide_eq_true ((List.all_eq_true.mp q) l (List.mem_of_getElem? hl))
    refine ⟨rfl, ?_⟩
    refine ⟨_, rfl, ?_⟩
    simp only [tNil]
    refine tell (z := txt l) (by rw [txt_len]; exact ll) fun a M1 sa ha res => ?_
    have eD1 := sa _ _ eD
    have r := res D (some_ne eD)
    refine ⟨ys, eD1, ?_, ?_, _, upd_same, ?_⟩
    · rw [ra.length, List.length_take]; exact small1000 (by omega)
    · intro b u q
      rw [upd_ne (ne_of_none q hD)]
      exact sa _ _ (sM _ _ q)
    · rw [List.take_succ_eq_append_getElem hil, eil]
      exact ((ra.same sa).upd eD1).snoc (r.upd eD1)
  rintro M1 ⟨sM, ys, eD, ra⟩
  have et : textsH.take (textsH.map txtV).length = textsH := by rw [List.length_map, List.take_length]
  rw [et] at ra
  have dD1 := My.Dp.same (u1.trans sM) dD
  have sH1 := (sH.trans u1).trans sM
  refine ⟨_, rfl, (by show 2 ≤ sizeLine; decide), fun r1 g1 => ⟨Nat.zero_le _, fun n1 g2 => ⟨(by show 2 ≤ sizeLine; decide), fun r2 g3 => ⟨Nat.zero_le _, fun n2 g4 => ⟨(by show 2 ≤ sizeLine; decide), fun r3 g5 => ⟨(by show 3 ≤ sizeLine; decide), fun r g6 => ?_⟩⟩⟩⟩⟩⟩
  have w1 := same_new g1 (.lst [.str "told", .ref d0])
  have w2 := same_new g2 (.lst [])
  have w3 := same_new g3 (.lst [.str "told", .ref n1])
  have w4 := same_new g4 (.lst [])
  have w5 := same_new g5 (.lst [.str "told", .ref n2])
  have w6 := same_new g6 (.lst [.ref r1, .ref r2, .ref r3])
  have w36 := ((w3.trans w4).trans w5).trans w6
  have w26 := w2.trans w36
  have w16 := w1.trans w26
  have da : Dp K _ (.ref D) (.list (textsH.map resD)) := .lst (SqL.of (w16 _ _ eD)) (My.DpAll.same w16 ra.dp)
  have de : Dp K _ (.ref r) expH := .lst (SqL.of (upd_same (o := .lst [.ref r1, .ref r2, .ref r3])))
    (.cons (.lst (SqL.of (w26 _ _ upd_same)) (.cons (.str _) (.cons (My.Dp.same w16 dD1) .nil)))
    (.cons (.lst (SqL.of (((w4.trans w5).trans w6) _ _ upd_same)) (.cons (.str _) (.cons (.lst (SqL.of (w36 _ _ upd_same)) .nil) .nil)))
    (.cons (.lst (SqL.of (w6 _ _ upd_same)) (.cons (.str _) (.cons (.lst (SqL.of ((w5.trans w6) _ _ upd_same)) .nil) .nil))) .nil)))
  refine ⟨_, _, da, de, h1_eq.2.1, h1_eq.2.2, ?_⟩
  rw [h1_eq.1]
  have sH2 := sH1.trans w16
  generalize L2.upd _ r (.lst [.ref r1, .ref r2, .ref r3]) = M2 at sH2 ⊢
  refine ⟨_, rfl, ?_⟩
  -- texts with a wrong place
  refine ⟨(by show 2 ≤ sizeLine; decide), fun q1 a1 => ⟨(by show 2 ≤ sizeLine; decide), fun q2 a2 => ⟨(by show 2 ≤ sizeLine; decide), fun q3 a3 => ⟨(by show 2 ≤ sizeLine; decide), fun q4 a4 => ⟨(by show 2 ≤ sizeLine; decide), fun q5 a5 => ⟨(by show 2 ≤ sizeLine; decide), fun q6 a6 => ⟨(by show 2 ≤ sizeLine; decide), fun q7 a7 => ⟨(by show 7 ≤ sizeLine; decide), fun d1 b1 => ?_⟩⟩⟩⟩⟩⟩⟩⟩
  have x1 := same_new a1 (.tup [.str "abX", .int 2])
  have x2 := same_new a2 (.tup [.str "a abcdefghijklm b", .int 2])
  have x3 := same_new a3 (.tup [.str "1abcdefghijklm", .int 1])
  have x4 := same_new a4 (.tup [.str "\t", .int 0])
  have x5 := same_new a5 (.tup [.str "a\tb", .int 1])
  have x6 := same_new a6 (.tup [.str "-1", .int 0])
  have x7 := same_new a7 (.tup [.str "# a", .int 0])
  have y1 := same_new b1 (.lst [.ref q1, .ref q2, .ref q3, .ref q4, .ref q5, .ref q6, .ref q7])
  refine ⟨_, rfl, (by show 2 ≤ sizeLine; decide), fun q8 a8 => ⟨(by show 2 ≤ sizeLine; decide), fun q9 a9 => ⟨(by show 2 ≤ sizeLine; decide), fun q10 a10 => ⟨(by show 3 ≤ sizeLine; decide), fun d2 b2 => ?_⟩⟩⟩⟩
  have x8 := same_new a8 (.tup [.str "a[", .int 1])
  have x9 := same_new a9 (.tup [.str "0a_", .int 2])
  have x10 := same_new a10 (.tup [.str "5-", .int 1])
  have y2 := same_new b2 (.lst [.ref q8, .ref q9, .ref q10])
  have z10 := x10.trans y2
  have z9 := x9.trans z10
  have z8 := x8.trans z9
  have z0 := y1.trans z8
  have z27 := x7.trans z0
  have z26 := x6.trans z27
  have z25 := x5.trans z26
  have z24 := x4.trans z25
  have z23 := x3.trans z24
  have z22 := x2.trans z23
  have z21 := x1.trans z22
  refine ⟨d1, d2, _, _, rfl, rfl, z8 _ _ upd_same, upd_same, (by show 10 ≤ sizeLine; decide), fun d3 b3 => ?_⟩
  have y3 := same_new b3 (.lst ([.ref q1, .ref q2, .ref q3, .ref q4, .ref q5, .ref q6, .ref q7] ++ [.ref q8, .ref q9, .ref q10]))
  have all : ∀ x ∈ ([.ref q1, .ref q2, .ref q3, .ref q4, .ref q5, .ref q6, .ref q7] ++ [.ref q8, .ref q9, .ref q10] : List V), Pr _ x :=
    mem_cons_all (.mk ((z22.trans y3) _ _ upd_same) (by decide +kernel)) (mem_cons_all (.mk ((z23.trans y3) _ _ upd_same) (by decide +kernel)) (mem_cons_all (.mk ((z24.trans y3) _ _ upd_same) (by decide +kernel)) (mem_cons_all (.mk ((z25.trans y3) _ _ upd_same) (by decide +kernel)) (mem_cons_all (.mk ((z26.trans y3) _ _ upd_same) (by decide +kernel)) (mem_cons_all (.mk ((z27.trans y3) _ _ upd_same) (by decide +kernel)) (mem_cons_all (.mk ((z0.trans y3) _ _ upd_same) (by decide +kernel)) (mem_cons_all (.mk ((z9.trans y3) _ _ upd_same) (by decide +kernel)) (mem_cons_all (.mk ((z10.trans y3) _ _ upd_same) (by decide +kernel)) (mem_cons_all (.mk ((y2.trans y3) _ _ upd_same) (by decide +kernel)) (fun _ h => nomatch h))))))))))
  have zA := z21.trans y3
  generalize hxs : ([.ref q1, .ref q2, .ref q3, .ref q4, .ref q5, .ref q6, .ref q7] ++ [.ref q8, .ref q9, .ref q10] : List V) = xs at all zA ⊢
  refine ⟨d3, rfl, ⟨_, SqL.of upd_same⟩, fun D3 hD3 => ?_⟩
  refine lc_list (K := K) (a := d3) (xs := xs) (fun i M => Same (L2.upd _ d3 (.lst xs)) M ∧ M D3 = some (.lst [])) ⟨same_new hD3 _, upd_same⟩ (fun i M _ z => SqL.of (z.1 _ _ upd_same)) ?_ ?_
  · rintro i v M hv ⟨sM, eD⟩
    obtain ⟨p, z, q, rfl, ep, O⟩ := all v (List.mem_of_getElem? hv)
    refine ⟨p, _, rfl, SqT.of (sM _ _ ep), rfl, _, _, rfl, _, _, rfl, rfl, rfl, ?_⟩
    refine ⟨_, rfl, ?_⟩
    simp only [tNil]
    refine tell0 (K := K) O.le fun a M1 sa da => ?_
    refine ⟨_, rfl, (by show 2 ≤ sizeLine; decide), fun r hr' => ?_⟩
    have sr := same_new hr' (.lst [.str "refused", .int q])
    refine ⟨_, _, My.Dp.same sr da, dp_ref upd_same, O.s1, O.s2, ?_⟩
    rw [O.eq]
    exact ⟨_, rfl, (sM.trans sa).trans sr, (sa.trans sr) _ _ eD⟩
  rintro M3 ⟨sM3, eD3⟩
  refine ⟨Nat.zero_le _, fun e0 he0 => ?_⟩
  have se := same_new he0 (.lst [])
  have ez : PyData.eqv (.list []) (.list []) = true := rfl
  refine ⟨_, _, Dp.lst (SqL.of (se _ _ eD3)) .nil, Dp.lst (SqL.of upd_same) .nil, rfl, rfl, ?_⟩
  rw [ez]
  have sH3 := ((sH2.trans zA).trans sM3).trans se
  generalize L2.upd M3 e0 (.lst []) = M4 at sH3 ⊢
  refine ⟨_, rfl, ?_⟩
  -- signs that begin no lexeme
  refine ⟨_, _, rfl, rfl, (by rw [sizeLine_eq]; decide +kernel), _, rfl, ?_⟩
  refine for_str (fun i σ M => ∃ v0 v1 v2 v3 v4 v5 : Option V, σ = [v0, v1, v2, v3, v4, v5] ∧ Same H M) ⟨_, _, _, _, _, _, rfl, sH3⟩ ?_ ?_
  · rintro i c σ M hc ⟨v0, v1, v2, v3, v4, v5, rfl, sM⟩
    have ⟨ok1, ok2⟩ := signs_ok c (List.mem_of_getElem? hc)
    have O1 := okp_ok ok1
    have O2 := okp_ok ok2
    have l1 := O1.le
    have l2 := O2.le
    rw [len_app, len_app] at l1
    rw [len_app] at l2
    refine ⟨_, rfl, _, _, rfl, rfl, sz6 (by omega), _, _, rfl, rfl, by rw [len_app]; exact sz6 (by omega), ?_⟩
    simp only [tNil]
    refine tell0 (K := K) O1.le fun a M1 sa da => ?_
    refine ⟨(by show 2 ≤ sizeLine; decide), fun r hr' => ?_⟩
    have sr := same_new hr' (.lst [.str "refused", .int 4])
    refine ⟨_, _, My.Dp.same sr da, dp_ref upd_same, O1.s1, O1.s2, ?_⟩
    rw [O1.eq]
    refine ⟨_, rfl, _, rfl, _, _, rfl, rfl, sz6 (by omega), ?_⟩
    simp only [tNil]
    refine tell0 (K := K) O2.le fun a2 M2' sa2 da2 => ?_
    refine ⟨(by show 2 ≤ sizeLine; decide), fun r2' hr2 => ?_⟩
    have sr2 := same_new hr2 (.lst [.str "refused", .int 2])
    refine ⟨_, _, My.Dp.same sr2 da2, dp_ref upd_same, O2.s1, O2.s2, ?_⟩
    rw [O2.eq]
    exact ⟨_, rfl, _, _, _, _, _, _, rfl, (((sM.trans sa).trans sr).trans sa2).trans sr2⟩
  rintro σ M ⟨v0, v1, v2, v3, v4, v5, rfl, sM⟩
  -- words
  refine ⟨(by show 7 ≤ sizeLine; decide), fun pw hw => ?_⟩
  refine ⟨pw, rfl, ⟨_, SqL.of upd_same⟩, for_list (K := K) (a := pw) (xs := wordsH.map txtV) (fun i σ M => ∃ v0 v1 v2 v3 v4 v5 : Option V, σ = [v0, v1, v2, v3, v4, v5] ∧ Same H M ∧ M pw = some (.lst (wordsH.map txtV))) ⟨_, _, _, _, _, _, rfl, sM.trans (same_new hw _), ?_⟩ (fun i σ M _ ⟨_, _, _, _, _, _, _, _, e⟩ => SqL.of e) ?_ ?_⟩
  · rw [← wordsH_is]; exact upd_same
  · rintro i v σ M hv ⟨v0, v1, v2, v3, v4, v5, rfl, sM, ew⟩
    obtain ⟨l, hl, rfl⟩ := List.mem_map.mp (List.mem_of_getElem? hv)
    have W := words_ok l hl
    have lw := W.le
    refine ⟨_, rfl, (by show 3 ≤ sizeLine; decide), fun q1 a1 => ⟨_, rfl, txt l, rfl, ?_, _, _, rfl, rfl, (by show 3 ≤ sizeLine; decide), fun q2 a2 => ⟨(by show 2 ≤ sizeLine; decide), fun d b => ?_⟩⟩⟩
    · rw [txt_len]; exact sz6 (by omega)
    have x1 := same_new a1 (.tup [.str "word", txtV l, .int 1])
    have x2 := same_new a2 (.tup [.str "sign", .str ";", .int (1 + ((txt l).length : Int))])
    have x3 := same_new b (.lst [.ref q1, .ref q2])
    have tup3' : ∀ {M : Hp} {p : Addr} {a b : Str} {i : Int}, M p = some (.tup [.str a, .str b, .int i]) → Dp K M (.ref p) (.tuple [.str a, .str b, .int i]) := fun e => .tup (SqT.of e) (.cons (.str _) (.cons (.str _) (.cons (.int _) .nil)))
    have dd : Dp K _ (.ref d) (.list [.tuple [.str "word", .str (txt l), .int 1], .tuple [.str "sign", .str ";", .int (1 + ((txt l).length : Int))]]) := .lst (SqL.of (upd_same (o := .lst [.ref q1, .ref q2]))) (.cons (tup3' ((x2.trans x3) _ _ upd_same)) (.cons (tup3' (x3 _ _ upd_same)) .nil))
    have x13 := (x1.trans x2).trans x3
    refine ⟨_, rfl, ?_⟩
    simp only [tNil]
    refine tell0 (K := K) (z := txt l) (by rw [txt_len]; omega) fun a M1 sa da => ?_
    refine ⟨_, rfl, (by show 3 ≤ sizeLine; decide), fun q3 a3 => ⟨(by show 1 ≤ sizeLine; decide), fun q4 a4 => ⟨(by show 2 ≤ sizeLine; decide), fun q5 a5 => ?_⟩⟩⟩
    have y1 := same_new a3 (.tup [.str "word", txtV l, .int 0])
    have y2 := same_new a4 (.lst [.ref q3])
    have y3 := same_new a5 (.lst [.str "told", .ref q4])
    have y13 := (y1.trans y2).trans y3
    refine ⟨_, _, My.Dp.same y13 da, Dp.lst (SqL.of upd_same) (.cons (.str _) (.cons (.lst (SqL.of (y3 _ _ upd_same)) (.cons (tup3' ((y2.trans y3) _ _ upd_same)) .nil)) .nil)), W.s1, W.t1, ?_⟩
    have e1' : PyData.eqv (resD (txt l).cps.toList) (.list [.str "told", .list [.tuple [.str "word", .str (txt l), .int 0]]]) = true := W.e1
    rw [e1']
    refine ⟨_, rfl, _, rfl, _, _, rfl, rfl, ?_, _, _, rfl, rfl, ?_, ?_⟩
    · show (" " : Str).length + (txt l).length ≤ _; rw [txt_len]; exact sz6 (by show 1 + l.length ≤ _; omega)
    · rw [len_app]; show (" " : Str).length + (txt l).length + (";" : Str).length ≤ _; rw [txt_len]; exact sz6 (by show 1 + l.length + 1 ≤ _; omega)
    simp only [tNil]
    refine tell0 (K := K) (z := " " ++ txt l ++ ";") (by rw [len_app, len_app, txt_len]; show 1 + l.length + 1 ≤ _; omega) fun a2 M2' sa2 da2 => ?_
    have y5 := (sa.trans y13).trans sa2
    refine ⟨_, rfl, (by show 2 ≤ sizeLine; decide), fun q6 a6 => ?_⟩
    have y6 := same_new a6 (.lst [.str "told", .ref d])
    refine ⟨_, _, My.Dp.same y6 da2, Dp.lst (SqL.of upd_same) (.cons (.str _) (.cons (My.Dp.same (y5.trans y6) dd) .nil)), W.s2, W.t2, ?_⟩
    have e2' : PyData.eqv (resD (" " ++ txt l ++ ";" : Str).cps.toList) (.list [.str "told", .list [.tuple [.str "word", .str (txt l), .int 1], .tuple [.str "sign", .str ";", .int (1 + ((txt l).length : Int))]]]) = true := W.e2
    rw [e2']
    have fin := (x13.trans y5).trans y6
    exact ⟨_, rfl, _, _, _, _, _, _, rfl, sM.trans fin, fin _ _ ew⟩
  rintro σ M ⟨v0, v1, v2, v3, v4, v5, rfl, sM, ew⟩
  -- the last one
  refine ⟨(by show 3 ≤ sizeLine; decide), fun q1 a1 => ⟨(by show 3 ≤ sizeLine; decide), fun q2 a2 => ⟨(by show 3 ≤ sizeLine; decide), fun q3 a3 => ⟨(by show 3 ≤ sizeLine; decide), fun q4 a4 => ⟨(by show 3 ≤ sizeLine; decide), fun q5 a5 => ⟨(by show 5 ≤ sizeLine; decide), fun d1 b1 => ?_⟩⟩⟩⟩⟩⟩
  have x1 := same_new a1 (.tup [.str "word", .str "p", .int 0])
  have x2 := same_new a2 (.tup [.str "sign", .str "(", .int 1])
  have x3 := same_new a3 (.tup [.str "number", .str "2", .int 2])
  have x4 := same_new a4 (.tup [.str "word", .str "a", .int 3])
  have x5 := same_new a5 (.tup [.str "sign", .str ")", .int 4])
  have y1 := same_new b1 (.lst [.ref q1, .ref q2, .ref q3, .ref q4, .ref q5])
  refine ⟨_, rfl, (by show 3 ≤ sizeLine; decide), fun q6 a6 => ⟨(by show 3 ≤ sizeLine; decide), fun q7 a7 => ⟨(by show 3 ≤ sizeLine; decide), fun q8 a8 => ⟨(by show 3 ≤ sizeLine; decide), fun q9 a9 => ⟨(by show 3 ≤ sizeLine; decide), fun q10 a10 => ⟨(by show 5 ≤ sizeLine; decide), fun d2 b2 => ?_⟩⟩⟩⟩⟩⟩
  have x6 := same_new a6 (.tup [.str "word", .str "to", .int 5])
  have x7 := same_new a7 (.tup [.str "sign", .str ";", .int 7])
  have x8 := same_new a8 (.tup [.str "sign", .str "{", .int 8])
  have x9 := same_new a9 (.tup [.str "sign", .str "}", .int 9])
  have x10 := same_new a10 (.tup [.str "sign", .str ",", .int 10])
  have y2 := same_new b2 (.lst [.ref q6, .ref q7, .ref q8, .ref q9, .ref q10])
  have z10 := x10.trans y2
  have z9 := x9.trans z10
  have z8 := x8.trans z9
  have z7 := x7.trans z8
  have z6 := x6.trans z7
  have z0 := y1.trans z6
  have z5 := x5.trans z0
  have z4 := x4.trans z5
  have z3 := x3.trans z4
  have z2 := x2.trans z3
  have z1 := x1.trans z2
  refine ⟨d1, d2, _, _, rfl, rfl, z6 _ _ upd_same, upd_same, (by show 10 ≤ sizeLine; decide), fun d3 b3 => ?_⟩
  have y3 := same_new b3 (.lst ([.ref q1, .ref q2, .ref q3, .ref q4, .ref q5] ++ [.ref q6, .ref q7, .ref q8, .ref q9, .ref q10]))
  have tup4 : ∀ {M : Hp} {p : Addr} {a b : Str} {i : Int}, M p = some (.tup [.str a, .str b, .int i]) → Dp K M (.ref p) (.tuple [.str a, .str b, .int i]) := fun e => .tup (SqT.of e) (.cons (.str _) (.cons (.str _) (.cons (.int _) .nil)))
  have dL : Dp K _ (.ref d3) (.list lastD) := .lst (SqL.of (upd_same (o := .lst ([.ref q1, .ref q2, .ref q3, .ref q4, .ref q5] ++ [.ref q6, .ref q7, .ref q8, .ref q9, .ref q10])))) (.cons (tup4 ((z2.trans y3) _ _ upd_same)) (.cons (tup4 ((z3.trans y3) _ _ upd_same)) (.cons (tup4 ((z4.trans y3) _ _ upd_same)) (.cons (tup4 ((z5.trans y3) _ _ upd_same)) (.cons (tup4 ((z0.trans y3) _ _ upd_same)) (.cons (tup4 ((z7.trans y3) _ _ upd_same)) (.cons (tup4 ((z8.trans y3) _ _ upd_same)) (.cons (tup4 ((z9.trans y3) _ _ upd_same)) (.cons (tup4 ((z10.trans y3) _ _ upd_same)) (.cons (tup4 ((y2.trans y3) _ _ upd_same)) (.nil)))))))))))
  have zA := z1.trans y3
  simp only [gName, tRet, tOp, tCall, tCons, tC, tNil]
  refine tell0 (K := K) (z := "p(2a)to;{},") (by decide +kernel) fun a M1 sa da => ?_
  refine ⟨_, rfl, (by show 2 ≤ sizeLine; decide), fun r hr' => ?_⟩
  have sr := same_new hr' (.lst [.str "told", .ref d3])
  refine ⟨_, _, My.Dp.same sr da, Dp.lst (SqL.of upd_same) (.cons (.str _) (.cons (My.Dp.same (sa.trans sr) dL) .nil)), last_eq.2.1, last_eq.2.2, ?_⟩
  rw [last_eq.1]
  exact k _ (((sM.trans zA).trans sa).trans sr)
end
end My
namespace My
open PySem PySem.Spec PyProof.Rows L2
section
variable {P : Program} {w : World} {K : PySem.W.Frag} {mg : Str → Option Value} {base : Heap}
theorem ok_law (T : Tx K mg) : FnG P w K mg base 9 T.a_law T.fd_law ["_law_script"] (spLaw K) := by
  refine FnG.of T.F_law sc_law (fun vs H Q E h => ?_) (fun cdv A outer st H vs Q E hg hr h => ?_)
  · obtain ⟨a, ns, rfl, _⟩ := h
    rfl
  obtain ⟨a0, ns0, rfl, hS0, hl0, k⟩ := h
  have G_law_source : FnOk P w K mg base CX0 1 T.a_law_source T.fd_law_source ["_law_script"] (spSource K) := ok_source T
  have G_law_pick : FnOk P w K mg base CX0 1 T.a_law_pick T.fd_law_pick ["_law_source_here", "_law_many"] spPick := ok_pick T
  have G_law_of : FnOk P w K mg base CX0 2 T.a_law_of T.fd_law_of ["_law_source_here", "_law_some"] (spOf K) := ok_of T
  have G_law_any_word : FnOk P w K mg base CX0 2 T.a_law_any_word T.fd_law_any_word ["_law_source_here"] spAny := ok_any T
  have G_law_spaced : FnOk P w K mg base CX0 3 T.a_law_spaced T.fd_law_spaced ["_law_source_here", "_law_signs"] spSpaced := ok_spaced T
  have G_law_told : FnOk P w K mg base CX0 5 T.a_law_told T.fd_law_told ["_law_text"] spTold := ok_told T
  have G_law_lexemes_due : FnOk P w K mg base CX0 3 T.a_law_lexemes_due T.fd_law_lexemes_due ["_law_text"] spDue := ok_due T
  have G_law_hand_right : FnOk P w K mg base CX0 7 T.a_law_hand_right T.fd_law_hand_right [] spYes := ok_hand T
  have G_law_long_right : FnOk P w K mg base CX0 7 T.a_law_long_right T.fd_law_long_right [] spYes := ok_long T
  have hr8 : Room 8 _ := hr
  have hr_law_source : Room 1 _ := hr.mono (by decide)
  have hr_law_pick : Room 1 _ := hr.mono (by decide)
  have hr_law_of : Room 2 _ := hr.mono (by decide)
  have hr_law_any_word : Room 2 _ := hr.mono (by decide)
  have hr_law_spaced : Room 3 _ := hr.mono (by decide)
  have hr_law_told : Room 5 _ := hr.mono (by decide)
  have hr_law_lexemes_due : Room 3 _ := hr.mono (by decide)
  have hr_law_hand_right : Room 7 _ := hr.mono (by decide)
  have hr_law_long_right : Room 7 _ := hr.mono (by decide)
  refine ⟨_, ((pss_cons (ps_set (i := 1) sc_law.nd rfl (Or.inr rfl) (pe_call G_law_source hr_law_source rfl T.m_law_source T.F_law_source.kp T.b_law_source .nil pass0 (pa_cons (pv 0) pa_nil)))
      (Evl.pss_cut (ps_if (PW.pt (pw_and (pt_cmpR op_eq (pe_call G_law_pick hr_law_pick rfl T.m_law_pick T.F_law_pick.kp T.b_law_pick .nil pass0 (pa_cons (pv 1) (pa_cons pe_int pa_nil))) pe_int (nomark _)) (pw_and1 (pt_not (pt_val (pe_call0 G_law_long_right hr_law_long_right rfl T.m_law_long_right T.F_law_long_right.kp T.b_law_long_right .nil pass0))))))
        (pss_one (ps_ret pe_bl))
        pss_nil)
      (pss_cons (ps_set (i := 2) sc_law.nd rfl (Or.inr rfl) (pe_lst (pa_cons pe_str (pa_cons pe_str (pa_cons pe_str (pa_cons pe_str (pa_cons pe_str (pa_cons pe_str (pa_cons pe_str (pa_cons pe_str (pa_cons pe_str (pa_cons (pe_callTy call_str_int (by rfl) T.n_str (by decide +kernel) (pa_cons (pe_op op_pow pe_int pe_int) pa_nil)) (pa_cons pe_str (pa_cons pe_str (pa_cons pe_str (pa_cons pe_str (pa_cons pe_str (pa_cons pe_str pa_nil))))))))))))))))))
      (pss_cons (ps_set (i := 2) sc_law.nd rfl (Or.inr rfl) (pe_op op_cat (pv 2) (pe_lc (own := [("_law_lap", 8)]) (by rfl) sc_law.nd (pi_range1 rfl T.n_range (pa_cons pe_int pa_nil)) (blkOk_by (own := [("_law_lap", 8)]) (N := ["_law_script", "_law_source_here", "_law_some", "_law_odd", "_law_turn", "_law_found", "_law_text", "_law_told_here", "_law_lap", "_law_at", "_law_here", "_law_again", "_law_one"]) (sc := defScope s_law) (by decide +kernel)) (fun _ _ _ _ _ => pg_name (i := 8) sc_law.nd rfl (Or.inl rfl)) (fun _ _ _ _ _ => pts_nil) (fun _ _ _ _ _ => (pe_call G_law_any_word hr_law_any_word rfl T.m_law_any_word T.F_law_any_word.kp T.b_law_any_word .nil pass0 (pa_cons (pv 1) pa_nil))))))
      (pss_cons (ps_set (i := 3) sc_law.nd rfl (Or.inl rfl) (pe_lst (pa_cons pe_str (pa_cons pe_str (pa_cons pe_str (pa_cons pe_str (pa_cons pe_str (pa_cons pe_str (pa_cons pe_str (pa_cons pe_str (pa_cons pe_str (pa_cons pe_str (pa_cons pe_str (pa_cons pe_str (pa_cons pe_str (pa_cons pe_str (pa_cons pe_str (pa_cons pe_str (pa_cons pe_str (pa_cons pe_str pa_nil))))))))))))))))))))
      (pss_cons (ps_set (i := 3) sc_law.nd rfl (Or.inl rfl) (pe_op op_cat (pv 3) (pe_lst (pa_cons pe_str (pa_cons pe_str (pa_cons pe_str pa_nil))))))
      (pss_cons (ps_for PassesOwn.never rfl (pi_range1 rfl T.n_range (pa_cons pe_int pa_nil)) (pg_name (i := 4) sc_law.nd rfl (Or.inl rfl))
        (pss_cons (ps_setLc (i := 5) (own := [("_law_lap", 8)]) (by rfl) sc_law.nd rfl rfl (sw_true rfl rfl rfl (by decide +kernel)) (pi_range1 rfl T.n_range (pa_cons (pe_call G_law_pick hr_law_pick rfl T.m_law_pick T.F_law_pick.kp T.b_law_pick .nil pass0 (pa_cons (pv 1) (pa_cons pe_int pa_nil))) pa_nil)) (blkOk_by (own := [("_law_lap", 8)]) (N := ["_law_script", "_law_source_here", "_law_some", "_law_odd", "_law_turn", "_law_found", "_law_text", "_law_told_here", "_law_lap", "_law_at", "_law_here", "_law_again", "_law_one"]) (sc := defScope s_law) (by decide +kernel)) (fun _ _ _ _ _ => pg_name (i := 8) sc_law.nd rfl (Or.inl rfl)) (fun _ _ _ _ _ => pts_nil) (fun _ _ _ _ _ => (pe_call G_law_of hr_law_of rfl T.m_law_of T.F_law_of.kp T.b_law_of .nil pass0 (pa_cons (pv 1) (pa_cons (pv 2) pa_nil)))))
      (pss_cons (ps_set (i := 6) sc_law.nd rfl (Or.inl rfl) (pe_call G_law_spaced hr_law_spaced rfl T.m_law_spaced T.F_law_spaced.kp T.b_law_spaced .nil pass0 (pa_cons (pv 1) (pa_cons (pv 5) pa_nil))))
      (pss_cons (ps_set (i := 7) sc_law.nd rfl (Or.inl rfl) (pe_call G_law_told hr_law_told rfl T.m_law_told T.F_law_told.kp T.b_law_told .nil pass0 (pa_cons (pv 6) pa_nil)))
      (pss_cons (ps_if (PW.pt (pw_or (pt_cmpR op_ne (pe_callB (call_repr_D hg hr.units) (by rfl) T.n_repr (by decide +kernel) (pa_cons (pv 7) pa_nil)) (pe_callB (call_repr_D hg hr.units) (by rfl) T.n_repr (by decide +kernel) (pa_cons (pe_call G_law_lexemes_due hr_law_lexemes_due rfl T.m_law_lexemes_due T.F_law_lexemes_due.kp T.b_law_lexemes_due .nil pass0 (pa_cons (pv 6) pa_nil)) pa_nil)) (nomark _)) (pw_or1 (pt_cmpR (op_neD hr.units) (pe_lc (own := [("_law_one", 12)]) (by rfl) sc_law.nd (pi_list (pe_ix ix_list (pv 7) pe_int (fun _ _ => rfl))) (blkOk_by (own := [("_law_one", 12)]) (N := ["_law_script", "_law_source_here", "_law_some", "_law_odd", "_law_turn", "_law_found", "_law_text", "_law_told_here", "_law_lap", "_law_at", "_law_here", "_law_again", "_law_one"]) (sc := defScope s_law) (by decide +kernel)) (fun _ _ _ _ _ => pg_name (i := 12) sc_law.nd rfl (Or.inl rfl)) (fun _ _ _ _ _ => pts_nil) (fun _ _ _ _ _ => (pe_ix (show IxR _ (rIxT K) from ix_tup) (pv 12) pe_int (fun _ _ => rfl)))) (pv 5) (nomark _)))))
        (pss_one (ps_ret pe_bl))
        pss_nil)
      (pss_one (ps_for PassesOwn.never rfl (pi_range1 rfl T.n_range (pa_cons pe_int pa_nil)) (pg_name (i := 8) sc_law.nd rfl (Or.inl rfl))
        (pss_cons (ps_set (i := 9) sc_law.nd rfl (Or.inl rfl) (pe_call G_law_pick hr_law_pick rfl T.m_law_pick T.F_law_pick.kp T.b_law_pick .nil pass0 (pa_cons (pv 1) (pa_cons (pe_op op_add (pe_callB call_len_seq (by rfl) T.n_len (by decide +kernel) (pa_cons (pv 5) pa_nil)) pe_int) pa_nil))))
      (pss_cons (ps_set (i := 10) sc_law.nd rfl (Or.inl rfl) (pe_call G_law_spaced hr_law_spaced rfl T.m_law_spaced T.F_law_spaced.kp T.b_law_spaced .nil pass0 (pa_cons (pv 1) (pa_cons (pe_op op_cat (pe_op op_cat (pe_slice sl_list (pv 5) po_none (po_some (pv 9))) (pe_lst (pa_cons (pe_call G_law_of hr_law_of rfl T.m_law_of T.F_law_of.kp T.b_law_of .nil pass0 (pa_cons (pv 1) (pa_cons (pv 3) pa_nil))) pa_nil))) (pe_slice sl_list (pv 5) (po_some (pv 9)) po_none)) pa_nil))))
      (Evl.pss_cut (ps_set (i := 10) sc_law.nd rfl (Or.inl rfl) (pe_ifExp (pt_cmpR op_eq (pe_call G_law_pick hr_law_pick rfl T.m_law_pick T.F_law_pick.kp T.b_law_pick .nil pass0 (pa_cons (pv 1) (pa_cons pe_int pa_nil))) pe_int (nomark _)) (pe_slice sl_str (pv 10) po_none (po_some (pe_call G_law_pick hr_law_pick rfl T.m_law_pick T.F_law_pick.kp T.b_law_pick .nil pass0 (pa_cons (pv 1) (pa_cons (pe_op op_add (pe_callB call_len_str (by rfl) T.n_len (by decide +kernel) (pa_cons (pv 10) pa_nil)) pe_int) pa_nil))))) (pv 10)))
      (pss_one (ps_for PassesOwn.never rfl (pi_range1 rfl T.n_range (pa_cons pe_int pa_nil)) (pg_name (i := 11) sc_law.nd rfl (Or.inl rfl))
        (pss_cons (ps_set (i := 7) sc_law.nd rfl (Or.inl rfl) (pe_call G_law_told hr_law_told rfl T.m_law_told T.F_law_told.kp T.b_law_told .nil pass0 (pa_cons (pv 10) pa_nil)))
      (pss_cons (ps_if (pt_cmpR op_ne (pe_callB (call_repr_D hg hr.units) (by rfl) T.n_repr (by decide +kernel) (pa_cons (pv 7) pa_nil)) (pe_callB (call_repr_D hg hr.units) (by rfl) T.n_repr (by decide +kernel) (pa_cons (pe_call G_law_lexemes_due hr_law_lexemes_due rfl T.m_law_lexemes_due T.F_law_lexemes_due.kp T.b_law_lexemes_due .nil pass0 (pa_cons (pv 10) pa_nil)) pa_nil)) (nomark _))
        (pss_one (ps_ret pe_bl))
        pss_nil)
      (pss_one (ps_if (pt_cmpR op_eq (pe_ix ix_list (pv 7) pe_int (fun _ _ => rfl)) pe_str (nomark _))
        (pss_one (ps_expr (pe_bm PySem.F.plainAttrs_list PySem.F.slot_list_append PySem.F.type_list_append mt_append (pe_ix ix_list (pv 7) pe_int (fun _ _ => rfl)) (pa_cons pe_non pa_nil))))
        pss_nil))))))))))))))))
      (pss_one (ps_ret (pe_call0 G_law_hand_right hr_law_hand_right rfl T.m_law_hand_right T.F_law_hand_right.kp T.b_law_hand_right .nil pass0))))))))))), ?_⟩
  refine ⟨_, rfl, a0, ns0, rfl, hS0, hl0, fun s c H1 s1 _ _ src1 => ?_⟩
  refine ⟨fun σ' M' => σ' = [some (.ref a0), some (.ref s), none, none, none, none, none, none, none, none, none, none, none] ∧ Src M' s c, ?_, ?_⟩
  · refine ⟨_, rfl, s, c, 8, rfl, src1, by decide, by decide, fun i H2 i0 i8 g2 => ⟨rfl, _, rfl, iteD (fun _ => ?_) (fun _ => ?_)⟩⟩
    · exact ⟨rfl, fun H3 s3 => ⟨_, rfl, rfl, g2.src.same s3⟩⟩
    · exact ⟨rfl, g2.src⟩
  rintro σ M ⟨rfl, S⟩
  -- some
  refine ⟨_, _, rfl, rfl, ⟨by decide, by decide, by decide⟩, _, rfl, ?_, (by show 16 ≤ sizeLine; decide), fun p1 h1 => ?_⟩
  · decide +kernel
  rw [wsA_is]
  have n1 := S.ne_none h1
  have S1 := S.same (same_new h1 (.lst (wsA.map txtV)))
  refine ⟨_, rfl, _, rfl, by decide, by decide, fun D hD => ?_⟩
  have nD := S1.ne_none hD
  have nD1 : p1 ≠ D := ne_of_none upd_same hD
  refine lc_range (lo := 0) (n := 5) (fun i M' => ∃ l : List (List Nat), l.length = i ∧ (∀ x ∈ l, isLx x = true ∧ OkW x) ∧ M' D = some (.lst (l.map txtV)) ∧ M' p1 = some (.lst (wsA.map txtV)) ∧ Src M' s c)
    ⟨[], rfl, (fun _ h => nomatch h), upd_same, by rw [upd_ne nD1]; exact upd_same, S1.upd6 nD⟩ ?_ ?_
  · rintro i M' hi ⟨l, el, ok, eD, e1, S'⟩
    refine ⟨rfl, ?_⟩
    refine ⟨_, rfl, s, c, rfl, S', fun x M'' lx ox g => ?_⟩
    have eD' := g.lst S' eD nD.2
    have e1' := g.lst S' e1 n1.2
    refine ⟨_, eD', ?_, l ++ [x], ?_, ?_, ?_, ?_, g.src.upd6 nD⟩
    · rw [List.length_map]; exact small1000 (by omega)
    · rw [List.length_append, el]; rfl
    · intro y hy
      rcases List.mem_append.mp hy with h | h
      · exact ok y h
      · rw [List.mem_singleton.mp h]; exact ⟨lx, ox⟩
    · rw [upd_same, List.map_append]; rfl
    · rw [upd_ne nD1]; exact e1'
  rintro M2 ⟨l, el, ok, eD, e1, S2⟩
  refine ⟨p1, D, _, _, rfl, rfl, e1, eD, ?_, fun pS hS => ?_⟩
  · rw [List.length_map, List.length_map, el]; decide
  rw [← List.map_append]
  have okS : ∀ x ∈ wsA ++ l, isLx x = true ∧ OkW x := fun x hx => (List.mem_append.mp hx).elim (wsA_ok x) (ok x)
  have lS : (wsA ++ l).length = 21 := by rw [List.length_append, el]; rfl
  generalize wsA ++ l = ws at okS lS
  have nS := S2.ne_none hS
  have S3 := S2.same (same_new hS (.lst (ws.map txtV)))
  have eS3 : (L2.upd M2 pS (.lst (ws.map txtV))) pS = some (.lst (ws.map txtV)) := upd_same
  generalize L2.upd M2 pS (.lst (ws.map txtV)) = M3 at S3 eS3
  -- odd
  refine ⟨(by show 18 ≤ sizeLine; decide), fun p6 h6 => ?_⟩
  have s6 := same_new h6 (.lst [V.str "A", .str "Z9", .str "-", .str "-1", .str "_", .str "#", .str ".", .str "[", .str "]", .str ":", .str "'", .str "\t", .str "a\t", .str "aB", .str "a-b", .str "~", .str "1_", .str "toA"])
  refine ⟨_, rfl, (by show 3 ≤ sizeLine; decide), fun p7 h7 => ?_⟩
  have s7 := same_new h7 (.lst [V.str "abcdefghijklm", .str "9abcdefghijklm", .str "abcdefghijkl0"])
  refine ⟨p6, p7, _, _, rfl, rfl, s7 _ _ upd_same, upd_same, (by show 21 ≤ sizeLine; decide), fun pO h8 => ?_⟩
  rw [odA_is]
  have s8 := same_new h8 (.lst (odA.map txtV))
  have nO := (S3.same (s6.trans s7)).ne_none h8
  have C0 : Ctx6 s c pS pO ws (L2.upd (L2.upd (L2.upd M3 p6 (.lst [V.str "A", .str "Z9", .str "-", .str "-1", .str "_", .str "#", .str ".", .str "[", .str "]", .str ":", .str "'", .str "\t", .str "a\t", .str "aB", .str "a-b", .str "~", .str "1_", .str "toA"])) p7 (.lst [V.str "abcdefghijklm", .str "9abcdefghijklm", .str "abcdefghijkl0"])) pO (.lst (odA.map txtV))) :=
    ⟨S3.same ((s6.trans s7).trans s8), ((s6.trans s7).trans s8) _ _ eS3, upd_same⟩
  generalize L2.upd (L2.upd (L2.upd M3 p6 (.lst [V.str "A", .str "Z9", .str "-", .str "-1", .str "_", .str "#", .str ".", .str "[", .str "]", .str ":", .str "'", .str "\t", .str "a\t", .str "aB", .str "a-b", .str "~", .str "1_", .str "toA"])) p7 (.lst [V.str "abcdefghijklm", .str "9abcdefghijklm", .str "abcdefghijkl0"])) pO (.lst (odA.map txtV)) = M4 at C0
  refine ⟨_, rfl, by decide, by decide, for_range (lo := 0) (n := 6) (fun i σ M => ∃ v4 v5 v6 v7 v8 v9 v10 v11 v12 : Option V, σ = [some (.ref a0), some (.ref s), some (.ref pS), some (.ref pO), v4, v5, v6, v7, v8, v9, v10, v11, v12] ∧ Ctx6 s c pS pO ws M)
    ⟨none, none, none, none, none, none, none, none, none, rfl, C0⟩ ?_ ?_⟩
  · rintro i σ M hi ⟨v4, v5, v6, v7, v8, v9, v10, v11, v12, rfl, C⟩
    -- found
    refine ⟨_, rfl, s, c, 12, rfl, C.src, by decide, by decide, fun m M1 m0 m1 g1 => ⟨m, rfl, by omega, by omega, fun D hD => ?_⟩⟩
    have C1 := C.go nS.2 nO.2 g1
    have ⟨nD, nDS, nDO⟩ := C1.new hD
    refine lc_range (lo := 0) (n := m.toNat) (fun i M' => ∃ l : List (List Nat), l.length = i ∧ (∀ x ∈ l, isLx x = true ∧ OkW x) ∧ M' D = some (.lst (l.map txtV)) ∧ Ctx6 s c pS pO ws M')
      ⟨[], rfl, (fun _ h => nomatch h), upd_same, C1.upd nD nDS nDO⟩ ?_ ?_
    · rintro i M' hi ⟨l, el, ok, eD, C'⟩
      refine ⟨rfl, ?_⟩
      refine ⟨_, rfl, _, rfl, s, c, pS, _, rfl, C'.src, C'.eS, nS.2, by rw [List.length_map]; omega, by rw [List.length_map]; omega, fun j v M'' hv g => ?_⟩
      obtain ⟨x, hx, rfl⟩ := List.mem_map.mp (List.mem_of_getElem? hv)
      have C'' := C'.go nS.2 nO.2 g
      refine ⟨_, g.lst C'.src eD nD.2, ?_, l ++ [x], ?_, ?_, ?_, C''.upd nD nDS nDO⟩
      · rw [List.length_map]; exact small1000 (by omega)
      · rw [List.length_append, el]; rfl
      · intro y hy
        rcases List.mem_append.mp hy with h | h
        · exact ok y h
        · rw [List.mem_singleton.mp h]; exact okS x hx
      · rw [upd_same, List.map_append]; rfl
    rintro M2 ⟨fs, ef, ok, eD, C2⟩
    have lf : fs.length ≤ 11 := by omega
    -- text, told
    refine ⟨_, rfl, _, rfl, s, c, D, fs, rfl, C2.src, eD, nD.2, by omega, fun x hx => (ok x hx).2, fun t M5 g5 lt at5 rb => ?_⟩
    have C5 := C2.go nS.2 nO.2 g5
    have eD5 := g5.lst C2.src eD nD.2
    obtain ⟨ts, et, em⟩ := rb fun x hx => (ok x hx).1
    have ltx : (txt t).length ≤ 100000 := by rw [txt_len]; omega
    have R := res_ok at5 lt
    refine ⟨_, rfl, ?_⟩
    simp only [tNil]
    refine tell ltx fun a M6 s6 ha res => ?_
    have res6 : Res M6 s a t := res s C5.src.there.1
    refine ⟨_, rfl, a, resD t, rfl, res6.dp, R.show_, R.depth, R.size, ?_⟩
    refine ⟨_, rfl, ?_⟩
    simp only [tNil]
    refine tellDue ltx fun a2 M7 s7 ha2 res2 => ?_
    have res7 : Res M7 s a2 t := res2 s (some_ne (s6 _ _ (Option.ne_none_iff_exists'.mp C5.src.there.1).choose_spec))
    refine ⟨a2, resD t, rfl, res7.dp, R.show_, R.depth, R.size, rfl, _, rfl, iteN (fun h => absurd rfl h) (fun _ => ?_)⟩
    have s67 := s6.trans s7
    have C7 := C5.same s67
    have eD7 := s67 _ _ eD5
    -- the lexemes' texts
    have res67 := res6.same s7
    rcases res67.is with ⟨en, f, xs, _, _, ea, efx, tk⟩ | ⟨q, eq, _⟩
    case inr => rw [et] at eq; cases eq
    rw [et] at tk
    have tk : Tks M7 xs ts := tk
    have lxs : xs.length ≤ 1000 := by
      have z := (scan_ok t).2
      rw [et] at z
      have z : ts.length ≤ t.length := z
      rw [tk.length]; omega
    refine ⟨_, rfl, a, _, _, _, rfl, rfl, SqL.of ea, atI_nat (j := 1) rfl, f, rfl, ⟨_, SqL.of efx⟩, fun D2 hD2 => ?_⟩
    refine lc_list (K := K) (a := f) (xs := xs) (fun i M' => Same M7 M' ∧ M' D2 = some (.lst (((ts.take i).map (·.2.1)).map txtV))) ⟨same_new hD2 _, upd_same⟩ (fun i M' _ z => SqL.of (z.1 _ _ efx)) ?_ ?_
    · rintro i v M' hv ⟨sM, eD2⟩
      obtain ⟨p, tt, htt, rfl, ep⟩ := tk.get hv
      have hil : i < ts.length := (List.getElem?_eq_some_iff.mp htt).1
      have eil : ts[i] = tt := (List.getElem?_eq_some_iff.mp htt).2
      refine ⟨rfl, ?_⟩
      refine ⟨_, rfl, p, _, _, _, rfl, rfl, SqT.of (sM _ _ ep), atI_nat (j := 1) rfl, _, eD2, ?_, ?_, ?_⟩
      · rw [List.length_map, List.length_map, List.length_take]; exact small1000 (by rw [tk.length] at lxs; omega)
      · intro b o e
        rw [upd_ne (ne_of_none e hD2)]
        exact sM b o e
      · rw [upd_same, List.take_succ_eq_append_getElem hil, List.map_append, List.map_append, eil]
        rfl
    rintro M8 ⟨s8, eD2⟩
    rw [tk.length, List.take_length, em] at eD2
    have C8 := C7.same s8
    have eD8 := s8 _ _ eD7
    have asF : ∀ x ∈ fs, ∀ c ∈ x, c < 128 := fun x hx c hc => ((ok x hx).2.asc c hc).1
    refine ⟨_, rfl, _, _, Dp.lst (SqL.of eD2) (dp_txts fs), Dp.lst (SqL.of eD8) (dp_txts fs), txts_shaped asF, txts_shaped asF, ?_⟩
    rw [eqv_same (txts_shaped asF)]
    refine ⟨_, rfl, ?_⟩
    -- three texts with an odd one
    refine ⟨_, rfl, by decide, by decide, for_range (lo := 0) (n := 3) (fun i σ M => ∃ v6 v7 v8 v9 v10 v11 v12 : Option V, σ = [some (.ref a0), some (.ref s), some (.ref pS), some (.ref pO), some (.int (0 + (_ : Nat))), some (.ref D), v6, v7, v8, v9, v10, v11, v12] ∧ Ctx6 s c pS pO ws M ∧ M D = some (.lst (fs.map txtV)))
      ⟨_, _, _, _, _, _, _, rfl, C8, eD8⟩ ?_ ?_⟩
    · rintro i2 σ M hi2 ⟨v6, v7, v8, v9, v10, v11, v12, rfl, C, eD⟩
      -- at
      refine ⟨_, rfl, _, rfl, D, _, rfl, .inl (SqL.of eD), _, _, rfl, rfl, s, c, _, rfl, C.src, by omega, by rw [List.length_map]; omega, fun j M1 j0 j1 g1 => ?_⟩
      rw [List.length_map] at j1
      obtain ⟨n, rfl⟩ : ∃ n : Nat, j = (n : Int) := ⟨j.toNat, by omega⟩
      have hn : n ≤ fs.length := by omega
      have C1 := C.go nS.2 nO.2 g1
      have eD1 := g1.lst C.src eD nD.2
      -- here
      refine ⟨_, rfl, _, rfl, _, rfl, _, rfl, D, _, rfl, SqL.of eD1, fun p1 h1 => ?_⟩
      rw [cut_lo fs hn]
      have s1 := same_new h1 (.lst ((fs.take n).map txtV))
      have C2 := C1.same s1
      have np1 := (C1.new h1).1
      refine ⟨_, rfl, _, rfl, s, c, pO, _, rfl, C2.src, C2.eO, nO.2, (by show 1 ≤ 21; decide), (by show 21 < 1000000; decide), fun jo v M3 hv g3 => ?_⟩
      obtain ⟨od, hod, rfl⟩ := List.mem_map.mp (List.mem_of_getElem? hv)
      have C3 := C2.go nS.2 nO.2 g3
      have eD3 := g3.lst C2.src (s1 _ _ eD1) nD.2
      have ep1 := g3.lst C2.src (upd_same (H := M1) (a := p1) (o := .lst ((fs.take n).map txtV))) np1.2
      refine ⟨(by show 1 ≤ sizeLine; decide), fun p2 h2 => ?_⟩
      have s2 := same_new h2 (.lst [txtV od])
      refine ⟨p1, p2, _, _, rfl, rfl, s2 _ _ ep1, upd_same, ?_, fun p3 h3 => ?_⟩
      · rw [List.length_map, List.length_take]; exact sz6 (by show min n fs.length + 1 ≤ _; omega)
      have s3 := same_new h3 (.lst ((fs.take n).map txtV ++ [txtV od]))
      refine ⟨_, rfl, _, rfl, _, rfl, D, _, rfl, SqL.of ((s2.trans s3) _ _ eD3), fun p4 h4 => ?_⟩
      rw [cut_hi fs hn]
      have s4 := same_new h4 (.lst ((fs.drop n).map txtV))
      refine ⟨p3, p4, _, _, rfl, rfl, s4 _ _ upd_same, upd_same, ?_, fun p5 h5 => ?_⟩
      · rw [List.length_append, List.length_map, List.length_map, List.length_take, List.length_drop]; exact sz6 (by show min n fs.length + 1 + (fs.length - n) ≤ _; omega)
      have s5 := same_new h5 (.lst ((fs.take n).map txtV ++ [txtV od] ++ (fs.drop n).map txtV))
      have s25 := ((s2.trans s3).trans s4).trans s5
      have C5 := C3.same s25
      have np5 := (C3.same ((s2.trans s3).trans s4)).src.ne_none h5
      have ep5 : (L2.upd (L2.upd (L2.upd (L2.upd M3 p2 (.lst [txtV od])) p3 (.lst ((fs.take n).map txtV ++ [txtV od]))) p4 (.lst ((fs.drop n).map txtV))) p5 (.lst ((fs.take n).map txtV ++ [txtV od] ++ (fs.drop n).map txtV))) p5 = some (.lst ((fs.take n ++ [od] ++ fs.drop n).map txtV)) := by
        rw [upd_same, List.map_append, List.map_append]; rfl
      have eD5 := s25 _ _ eD3
      refine ⟨s, c, p5, _, rfl, C5.src, ep5, np5.2, ?_, ?_, fun t M6 g6 lt at6 _ => ?_⟩
      · rw [List.length_append, List.length_append, List.length_take, List.length_drop]; show min n fs.length + 1 + (fs.length - n) ≤ 12; omega
      · intro x hx
        rcases List.mem_append.mp hx with h | h
        · rcases List.mem_append.mp h with h | h
          · exact (ok x (List.mem_of_mem_take h)).2
          · rw [List.mem_singleton.mp h]; exact odA_ok od hod
        · exact (ok x (List.mem_of_mem_drop h)).2
      have C6 := C5.go nS.2 nO.2 g6
      have eD6 := g6.lst C5.src eD5 nD.2
      -- cut anywhere
      refine ⟨fun σ' M' => ∃ (t' : List Nat) (v6 v7 v11 v12 : Option V), σ' = [some (.ref a0), some (.ref s), some (.ref pS), some (.ref pO), some (.int (0 + (i : Nat))), some (.ref D), v6, v7, some (.int (0 + (i2 : Nat))), some (.int (n : Nat)), some (txtV t'), v11, v12] ∧ Ctx6 s c pS pO ws M' ∧ M' D = some (.lst (fs.map txtV)) ∧
        t'.length ≤ 1000 ∧ ∀ c ∈ t', c < 128, ?_, ?_⟩
      · refine ⟨_, rfl, s, c, 2, rfl, C6.src, by decide, by decide, fun k2 M7 k0 k1 g7 => ⟨rfl, _, rfl, iteD (fun _ => ?_) (fun _ => ?_)⟩⟩
        · have C7 := C6.go nS.2 nO.2 g7
          have l5 : (txt t).length ≤ 100000 := by rw [txt_len]; omega
          refine ⟨_, rfl, _, rfl, _, rfl, txt t, rfl, sz6 l5, _, _, rfl, rfl, s, c, _, rfl, C7.src, by omega, by omega, fun k3 M8 q0 q1 g8 => ?_⟩
          refine ⟨_, rfl, txt t, rfl, sz6 l5, ?_⟩
          obtain ⟨t', e', l', m'⟩ := cutS_part t none (some k3)
          rw [e']
          exact ⟨t', _, _, _, _, rfl, C7.go nS.2 nO.2 g8, g8.lst C7.src (g7.lst C6.src eD6 nD.2) nD.2, by omega, fun c hc => at6 c (m' c hc)⟩
        · exact ⟨_, rfl, t, _, _, _, _, rfl, C6.go nS.2 nO.2 g7, g7.lst C6.src eD6 nD.2, lt, at6⟩
      rintro σ M ⟨t, v6, v7, v11, v12, rfl, C, eD, lt, at6⟩
      have ltx : (txt t).length ≤ 100000 := by rw [txt_len]; omega
      have R := res_ok at6 lt
      refine ⟨_, rfl, by decide, by decide, for_range (lo := 0) (n := 2) (fun i3 σ M => ∃ v6 v7 v11 v12 : Option V, σ = [some (.ref a0), some (.ref s), some (.ref pS), some (.ref pO), some (.int (0 + (i : Nat))), some (.ref D), v6, v7, some (.int (0 + (i2 : Nat))), some (.int (n : Nat)), some (txtV t), v11, v12] ∧ Ctx6 s c pS pO ws M ∧ M D = some (.lst (fs.map txtV)))
        ⟨_, _, _, _, rfl, C, eD⟩ ?_ ?_⟩
      · rintro i3 σ M hi3 ⟨v6, v7, v11, v12, rfl, C, eD⟩
        refine ⟨_, rfl, ?_⟩
        simp only [tNil]
        refine tell ltx fun a M6 s6 ha res => ?_
        have res6 : Res M6 s a t := res s C.src.there.1
        refine ⟨_, rfl, a, resD t, rfl, res6.dp, R.show_, R.depth, R.size, ?_⟩
        refine ⟨_, rfl, ?_⟩
        simp only [tNil]
        refine tellDue ltx fun a2 M7 s7 ha2 res2 => ?_
        have res7 : Res M7 s a2 t := res2 s (some_ne (s6 _ _ (Option.ne_none_iff_exists'.mp C.src.there.1).choose_spec))
        refine ⟨a2, resD t, rfl, res7.dp, R.show_, R.depth, R.size, rfl, _, rfl, iteN (fun h => absurd rfl h) (fun _ => ?_)⟩
        have s67 := s6.trans s7
        have C7 := C.same s67
        have eD7 := s67 _ _ eD
        have res67 := res6.same s7
        rcases res67.is with ⟨en, f, xs, _, _, ea, efx, tk⟩ | ⟨q, eq, ea⟩
        · refine ⟨_, rfl, a, _, _, _, rfl, rfl, SqL.of ea, atI_nat (j := 0) rfl, rfl, _, rfl, iteT ?_⟩
          have lxs : xs.length ≤ 1000 := by
            have z := (scan_ok t).2
            rw [tk.length]; omega
          refine ⟨_, rfl, a, _, _, _, rfl, rfl, SqL.of ea, atI_nat (j := 1) rfl, .inl ⟨rfl, _, SqL.of efx⟩, f, xs, _, rfl, rfl, efx, small1000 lxs, ?_⟩
          have part : ∀ b, M b ≠ none → f ≠ b := fun b hb => ((res b hb).same s7).part ea
          have n1 := part s C.src.there.1
          have n2 := part c C.src.there.2
          have n3 := part pS (some_ne C.eS)
          have n4 := part pO (some_ne C.eO)
          have n5 := part D (some_ne eD)
          exact ⟨_, _, _, _, rfl, C7.upd ⟨n1, n2⟩ n3 n4, by rw [upd_ne n5.symm]; exact eD7⟩
        · refine ⟨_, rfl, a, _, _, _, rfl, rfl, SqL.of ea, atI_nat (j := 0) rfl, rfl, _, rfl, ?_⟩
          rw [decide_eq_false (by decide +kernel : ¬ V.str "refused" = V.str "told")]
          exact iteF ⟨_, _, _, _, rfl, C7, eD7⟩
      · rintro σ M ⟨v6, v7, v11, v12, rfl, C, eD⟩
        exact ⟨_, _, _, _, _, _, _, rfl, C, eD⟩
    · rintro σ M ⟨v6, v7, v8, v9, v10, v11, v12, rfl, C, eD⟩
      exact ⟨_, _, _, _, _, _, _, _, _, rfl, C⟩
  · rintro σ M ⟨v4, v5, v6, v7, v8, v9, v10, v11, v12, rfl, C⟩
    exact ⟨rfl, fun H' _ => k H'⟩
end
end My
namespace My
open PySem PySem.Spec PyProof.Rows L2
theorem tx_mk {K : PySem.W.Frag} {h : Heap} {mg : Str → Option Value} (X : K.In h) (G : h.Ns mainGlobals mg)
    {fa f_lexemes f_scanned f_lexeme_at f_run_end f_law_source f_law_pick f_law_of f_law_spaced f_law_run f_law_is_word f_law_lexeme f_law_lexemes_due f_law_any_word f_law_told f_law_hand_right f_law_long_right f_law : Addr}
    {od_lexemes an_lexemes od_scanned an_scanned od_lexeme_at an_lexeme_at od_run_end an_run_end od_law_source an_law_source od_law_pick an_law_pick od_law_of an_law_of od_law_spaced an_law_spaced od_law_run an_law_run od_law_is_word an_law_is_word od_law_lexeme an_law_lexeme od_law_lexemes_due an_law_lexemes_due od_law_any_word an_law_any_word od_law_told an_law_told od_law_hand_right an_law_hand_right od_law_long_right an_law_long_right od_law an_law : Option Addr}
    {sl_lexemes sl_scanned sl_lexeme_at sl_run_end sl_law_source sl_law_pick sl_law_of sl_law_spaced sl_law_run sl_law_is_word sl_law_lexeme sl_law_lexemes_due sl_law_any_word sl_law_told sl_law_hand_right sl_law_long_right sl_law : Array (Option Value)}
    {oc_lexemes kV_lexemes dc_lexemes pm_lexemes cd_lexemes ct_lexemes oc_scanned kV_scanned dc_scanned pm_scanned cd_scanned ct_scanned oc_lexeme_at kV_lexeme_at dc_lexeme_at pm_lexeme_at cd_lexeme_at ct_lexeme_at oc_run_end kV_run_end dc_run_end pm_run_end cd_run_end ct_run_end oc_law_source kV_law_source dc_law_source pm_law_source cd_law_source ct_law_source oc_law_pick kV_law_pick dc_law_pick pm_law_pick cd_law_pick ct_law_pick oc_law_of kV_law_of dc_law_of pm_law_of cd_law_of ct_law_of oc_law_spaced kV_law_spaced dc_law_spaced pm_law_spaced cd_law_spaced ct_law_spaced oc_law_run kV_law_run dc_law_run pm_law_run cd_law_run ct_law_run oc_law_is_word kV_law_is_word dc_law_is_word pm_law_is_word cd_law_is_word ct_law_is_word oc_law_lexeme kV_law_lexeme dc_law_lexeme pm_law_lexeme cd_law_lexeme ct_law_lexeme oc_law_lexemes_due kV_law_lexemes_due dc_law_lexemes_due pm_law_lexemes_due cd_law_lexemes_due ct_law_lexemes_due oc_law_any_word kV_law_any_word dc_law_any_word pm_law_any_word cd_law_any_word ct_law_any_word oc_law_told kV_law_told dc_law_told pm_law_told cd_law_told ct_law_told oc_law_hand_right kV_law_hand_right dc_law_hand_right pm_law_hand_right cd_law_hand_right ct_law_hand_right oc_law_long_right kV_law_long_right dc_law_long_right pm_law_long_right cd_law_long_right ct_law_long_right oc_law kV_law dc_law pm_law cd_law ct_law : Value}
    {C_BadText N_BadText fi_BadText CB0_BadText : Addr} {nm_BadText q_BadText : Str} {bs_BadText sub_BadText : List Value} {sn_BadText : List Str} {ab_BadText : Bool} {col_BadText : Option Bool} {dd_BadText odi_BadText ani_BadText : Option Addr} {m0_BadText m1_BadText m2_BadText m3_BadText m5_BadText : Option Value} {sli_BadText : Array (Option Value)} {oci_BadText kVi_BadText dci_BadText pmi_BadText cdi_BadText cti_BadText : Value} (hfa : mg "law" = some (.ref fa))
    (a_lexemes : PySem.W.nsIn K mainGlobals "lexemes" = some (some (.ref f_lexemes))) (l_lexemes : K.lookup f_lexemes = some ⟨oc_lexemes, od_lexemes, .func (PySem.W.fnOf "lexemes" "lexemes" (defArgs s_lexemes) (defBody s_lexemes) (defScope s_lexemes) .none kV_lexemes dc_lexemes pm_lexemes an_lexemes cd_lexemes ct_lexemes), sl_lexemes⟩) (c_lexemes : PySem.W.codeIn K cd_lexemes "lexemes" = true) (k_lexemes : PySem.W.keepIn K (.ref f_lexemes) = true)
    (a_scanned : PySem.W.nsIn K mainGlobals "scanned" = some (some (.ref f_scanned))) (l_scanned : K.lookup f_scanned = some ⟨oc_scanned, od_scanned, .func (PySem.W.fnOf "scanned" "scanned" (defArgs s_scanned) (defBody s_scanned) (defScope s_scanned) .none kV_scanned dc_scanned pm_scanned an_scanned cd_scanned ct_scanned), sl_scanned⟩) (c_scanned : PySem.W.codeIn K cd_scanned "scanned" = true) (k_scanned : PySem.W.keepIn K (.ref f_scanned) = true)
    (a_lexeme_at : PySem.W.nsIn K mainGlobals "lexeme_at" = some (some (.ref f_lexeme_at))) (l_lexeme_at : K.lookup f_lexeme_at = some ⟨oc_lexeme_at, od_lexeme_at, .func (PySem.W.fnOf "lexeme_at" "lexeme_at" (defArgs s_lexeme_at) (defBody s_lexeme_at) (defScope s_lexeme_at) .none kV_lexeme_at dc_lexeme_at pm_lexeme_at an_lexeme_at cd_lexeme_at ct_lexeme_at), sl_lexeme_at⟩) (c_lexeme_at : PySem.W.codeIn K cd_lexeme_at "lexeme_at" = true) (k_lexeme_at : PySem.W.keepIn K (.ref f_lexeme_at) = true)
    (a_run_end : PySem.W.nsIn K mainGlobals "run_end" = some (some (.ref f_run_end))) (l_run_end : K.lookup f_run_end = some ⟨oc_run_end, od_run_end, .func (PySem.W.fnOf "run_end" "run_end" (defArgs s_run_end) (defBody s_run_end) (defScope s_run_end) .none kV_run_end dc_run_end pm_run_end an_run_end cd_run_end ct_run_end), sl_run_end⟩) (c_run_end : PySem.W.codeIn K cd_run_end "run_end" = true) (k_run_end : PySem.W.keepIn K (.ref f_run_end) = true)
    (a_law_source : PySem.W.nsIn K mainGlobals "_law_source" = some (some (.ref f_law_source))) (l_law_source : K.lookup f_law_source = some ⟨oc_law_source, od_law_source, .func (PySem.W.fnOf "_law_source" "_law_source" (defArgs s_law_source) (defBody s_law_source) (defScope s_law_source) .none kV_law_source dc_law_source pm_law_source an_law_source cd_law_source ct_law_source), sl_law_source⟩) (c_law_source : PySem.W.codeIn K cd_law_source "_law_source" = true) (k_law_source : PySem.W.keepIn K (.ref f_law_source) = true)
    (a_law_pick : PySem.W.nsIn K mainGlobals "_law_pick" = some (some (.ref f_law_pick))) (l_law_pick : K.lookup f_law_pick = some ⟨oc_law_pick, od_law_pick, .func (PySem.W.fnOf "_law_pick" "_law_pick" (defArgs s_law_pick) (defBody s_law_pick) (defScope s_law_pick) .none kV_law_pick dc_law_pick pm_law_pick an_law_pick cd_law_pick ct_law_pick), sl_law_pick⟩) (c_law_pick : PySem.W.codeIn K cd_law_pick "_law_pick" = true) (k_law_pick : PySem.W.keepIn K (.ref f_law_pick) = true)
    (a_law_of : PySem.W.nsIn K mainGlobals "_law_of" = some (some (.ref f_law_of))) (l_law_of : K.lookup f_law_of = some ⟨oc_law_of, od_law_of, .func (PySem.W.fnOf "_law_of" "_law_of" (defArgs s_law_of) (defBody s_law_of) (defScope s_law_of) .none kV_law_of dc_law_of pm_law_of an_law_of cd_law_of ct_law_of), sl_law_of⟩) (c_law_of : PySem.W.codeIn K cd_law_of "_law_of" = true) (k_law_of : PySem.W.keepIn K (.ref f_law_of) = true)
    (a_law_spaced : PySem.W.nsIn K mainGlobals "_law_spaced" = some (some (.ref f_law_spaced))) (l_law_spaced : K.lookup f_law_spaced = some ⟨oc_law_spaced, od_law_spaced, .func (PySem.W.fnOf "_law_spaced" "_law_spaced" (defArgs s_law_spaced) (defBody s_law_spaced) (defScope s_law_spaced) .none kV_law_spaced dc_law_spaced pm_law_spaced an_law_spaced cd_law_spaced ct_law_spaced), sl_law_spaced⟩) (c_law_spaced : PySem.W.codeIn K cd_law_spaced "_law_spaced" = true) (k_law_spaced : PySem.W.keepIn K (.ref f_law_spaced) = true)
    (a_law_run : PySem.W.nsIn K mainGlobals "_law_run" = some (some (.ref f_law_run))) (l_law_run : K.lookup f_law_run = some ⟨oc_law_run, od_law_run, .func (PySem.W.fnOf "_law_run" "_law_run" (defArgs s_law_run) (defBody s_law_run) (defScope s_law_run) .none kV_law_run dc_law_run pm_law_run an_law_run cd_law_run ct_law_run), sl_law_run⟩) (c_law_run : PySem.W.codeIn K cd_law_run "_law_run" = true) (k_law_run : PySem.W.keepIn K (.ref f_law_run) = true)
    (a_law_is_word : PySem.W.nsIn K mainGlobals "_law_is_word" = some (some (.ref f_law_is_word))) (l_law_is_word : K.lookup f_law_is_word = some ⟨oc_law_is_word, od_law_is_word, .func (PySem.W.fnOf "_law_is_word" "_law_is_word" (defArgs s_law_is_word) (defBody s_law_is_word) (defScope s_law_is_word) .none kV_law_is_word dc_law_is_word pm_law_is_word an_law_is_word cd_law_is_word ct_law_is_word), sl_law_is_word⟩) (c_law_is_word : PySem.W.codeIn K cd_law_is_word "_law_is_word" = true) (k_law_is_word : PySem.W.keepIn K (.ref f_law_is_word) = true)
    (a_law_lexeme : PySem.W.nsIn K mainGlobals "_law_lexeme" = some (some (.ref f_law_lexeme))) (l_law_lexeme : K.lookup f_law_lexeme = some ⟨oc_law_lexeme, od_law_lexeme, .func (PySem.W.fnOf "_law_lexeme" "_law_lexeme" (defArgs s_law_lexeme) (defBody s_law_lexeme) (defScope s_law_lexeme) .none kV_law_lexeme dc_law_lexeme pm_law_lexeme an_law_lexeme cd_law_lexeme ct_law_lexeme), sl_law_lexeme⟩) (c_law_lexeme : PySem.W.codeIn K cd_law_lexeme "_law_lexeme" = true) (k_law_lexeme : PySem.W.keepIn K (.ref f_law_lexeme) = true)
    (a_law_lexemes_due : PySem.W.nsIn K mainGlobals "_law_lexemes_due" = some (some (.ref f_law_lexemes_due))) (l_law_lexemes_due : K.lookup f_law_lexemes_due = some ⟨oc_law_lexemes_due, od_law_lexemes_due, .func (PySem.W.fnOf "_law_lexemes_due" "_law_lexemes_due" (defArgs s_law_lexemes_due) (defBody s_law_lexemes_due) (defScope s_law_lexemes_due) .none kV_law_lexemes_due dc_law_lexemes_due pm_law_lexemes_due an_law_lexemes_due cd_law_lexemes_due ct_law_lexemes_due), sl_law_lexemes_due⟩) (c_law_lexemes_due : PySem.W.codeIn K cd_law_lexemes_due "_law_lexemes_due" = true) (k_law_lexemes_due : PySem.W.keepIn K (.ref f_law_lexemes_due) = true)
    (a_law_any_word : PySem.W.nsIn K mainGlobals "_law_any_word" = some (some (.ref f_law_any_word))) (l_law_any_word : K.lookup f_law_any_word = some ⟨oc_law_any_word, od_law_any_word, .func (PySem.W.fnOf "_law_any_word" "_law_any_word" (defArgs s_law_any_word) (defBody s_law_any_word) (defScope s_law_any_word) .none kV_law_any_word dc_law_any_word pm_law_any_word an_law_any_word cd_law_any_word ct_law_any_word), sl_law_any_word⟩) (c_law_any_word : PySem.W.codeIn K cd_law_any_word "_law_any_word" = true) (k_law_any_word : PySem.W.keepIn K (.ref f_law_any_word) = true)
    (a_law_told : PySem.W.nsIn K mainGlobals "_law_told" = some (some (.ref f_law_told))) (l_law_told : K.lookup f_law_told = some ⟨oc_law_told, od_law_told, .func (PySem.W.fnOf "_law_told" "_law_told" (defArgs s_law_told) (defBody s_law_told) (defScope s_law_told) .none kV_law_told dc_law_told pm_law_told an_law_told cd_law_told ct_law_told), sl_law_told⟩) (c_law_told : PySem.W.codeIn K cd_law_told "_law_told" = true) (k_law_told : PySem.W.keepIn K (.ref f_law_told) = true)
    (a_law_hand_right : PySem.W.nsIn K mainGlobals "_law_hand_right" = some (some (.ref f_law_hand_right))) (l_law_hand_right : K.lookup f_law_hand_right = some ⟨oc_law_hand_right, od_law_hand_right, .func (PySem.W.fnOf "_law_hand_right" "_law_hand_right" (defArgs s_law_hand_right) (defBody s_law_hand_right) (defScope s_law_hand_right) .none kV_law_hand_right dc_law_hand_right pm_law_hand_right an_law_hand_right cd_law_hand_right ct_law_hand_right), sl_law_hand_right⟩) (c_law_hand_right : PySem.W.codeIn K cd_law_hand_right "_law_hand_right" = true) (k_law_hand_right : PySem.W.keepIn K (.ref f_law_hand_right) = true)
    (a_law_long_right : PySem.W.nsIn K mainGlobals "_law_long_right" = some (some (.ref f_law_long_right))) (l_law_long_right : K.lookup f_law_long_right = some ⟨oc_law_long_right, od_law_long_right, .func (PySem.W.fnOf "_law_long_right" "_law_long_right" (defArgs s_law_long_right) (defBody s_law_long_right) (defScope s_law_long_right) .none kV_law_long_right dc_law_long_right pm_law_long_right an_law_long_right cd_law_long_right ct_law_long_right), sl_law_long_right⟩) (c_law_long_right : PySem.W.codeIn K cd_law_long_right "_law_long_right" = true) (k_law_long_right : PySem.W.keepIn K (.ref f_law_long_right) = true)
    (a_law : PySem.W.nsIn K mainGlobals "law" = some (some (.ref f_law))) (l_law : K.lookup f_law = some ⟨oc_law, od_law, .func (PySem.W.fnOf "law" "law" (defArgs s_law) (defBody s_law) (defScope s_law) .none kV_law dc_law pm_law an_law cd_law ct_law), sl_law⟩) (c_law : PySem.W.codeIn K cd_law "law" = true) (k_law : PySem.W.keepIn K (.ref f_law) = true)
    (aC_BadText : PySem.W.nsIn K mainGlobals "BadText" = some (some (.ref C_BadText)))
    (xL_BadText : K.lookup C_BadText = some (excClassObj nm_BadText q_BadText C_BadText N_BadText bs_BadText [.ref CB0_BadText, .type "ValueError", .type "Exception", .type "BaseException", .type "object"] true sn_BadText sub_BadText ab_BadText col_BadText dd_BadText m0_BadText m1_BadText m2_BadText m3_BadText m5_BadText "ValueError.__new__"))
    (sa_BadText : PySem.W.findIn K (.ref C_BadText) "__setattr__" = some (some (.builtin "object.__setattr__")))
    (ga_BadText : PySem.W.findIn K (.ref C_BadText) "__getattribute__" = some (some (.builtin "BaseException.__getattribute__")))
    (gg_BadText : PySem.W.findIn K (.ref C_BadText) "__getattr__" = some none)
    (nf_BadText : PySem.W.findIn K (.ref C_BadText) "place" = some none)
    (ai_BadText : PySem.W.findIn K (.ref C_BadText) "__init__" = some (some (.ref fi_BadText)))
    (ti_BadText : PySem.W.typeIn K (.ref fi_BadText) = some (.type "function"))
    (li_BadText : K.lookup fi_BadText = some ⟨oci_BadText, odi_BadText, .func (PySem.W.fnOf "__init__" "BadText.__init__" (defArgs (initOf s_BadText)) (defBody (initOf s_BadText)) (defScope (initOf s_BadText)) .none kVi_BadText dci_BadText pmi_BadText ani_BadText cdi_BadText cti_BadText), sli_BadText⟩)
    (ci_BadText : PySem.W.codeIn K cdi_BadText "BadText.__init__" = true)
    (ki_BadText : PySem.W.keepIn K (.ref fi_BadText) = true)
    (kC_BadText : PySem.W.keepIn K (.ref C_BadText) = true)
    (eC_BadText : PySem.W.subIn K (.ref C_BadText) (.type "BaseException") = some true)
    (tC_BadText : PySem.W.typeIn K (.ref C_BadText) = some (.type "type"))
    (hC_BadText : PySem.W.hasDictIn K C_BadText = true)
    (iC_BadText : PySem.W.isClsIn K C_BadText = true)
    (sC_BadText : PySem.W.subIn K (.ref C_BadText) (.ref C_BadText) = some true)
    {tk_BLANKS : Tok} (zc_BLANKS : PySem.W.nsIn K mainGlobals "BLANKS" = some (some (.str " \n" tk_BLANKS)))
    {tk_DIGITS : Tok} (zc_DIGITS : PySem.W.nsIn K mainGlobals "DIGITS" = some (some (.str "0123456789" tk_DIGITS)))
    {tk_LETTERS : Tok} (zc_LETTERS : PySem.W.nsIn K mainGlobals "LETTERS" = some (some (.str "abcdefghijklmnopqrstuvwxyz" tk_LETTERS)))
    {tk_LONGEST_WORD : Tok} (zc_LONGEST_WORD : PySem.W.nsIn K mainGlobals "LONGEST_WORD" = some (some (.int 12 tk_LONGEST_WORD)))
    {tk_SIGNS : Tok} (zc_SIGNS : PySem.W.nsIn K mainGlobals "SIGNS" = some (some (.str "(){},;" tk_SIGNS)))
    (zn_abs : PySem.W.nsIn K mainGlobals "abs" = some none)
    (zn_int : PySem.W.nsIn K mainGlobals "int" = some none)
    (zn_isinstance : PySem.W.nsIn K mainGlobals "isinstance" = some none)
    (zn_len : PySem.W.nsIn K mainGlobals "len" = some none)
    (zn_max : PySem.W.nsIn K mainGlobals "max" = some none)
    (zn_range : PySem.W.nsIn K mainGlobals "range" = some none)
    (zn_repr : PySem.W.nsIn K mainGlobals "repr" = some none)
    (zn_str : PySem.W.nsIn K mainGlobals "str" = some none) :
    ∃ T : Tx K mg, T.a_law = fa ∧ (∀ (s : Shared) (v : Value), BindsTo s T.fd_law ⟨[v], []⟩ [("_law_script", v)]) := by
  have e := hfa.symm.trans (PySem.W.mg_of X G a_law)
  cases e
  have F_lexemes := fun_mk (st := s_lexemes) l_lexemes c_lexemes k_lexemes
  have b_lexemes := F_lexemes.binds (ps := ["text"]) fun _ _ _ _ _ _ us hl => match us, hl with | [_], _ => rfl
  have F_scanned := fun_mk (st := s_scanned) l_scanned c_scanned k_scanned
  have b_scanned := F_scanned.binds (ps := ["text"]) fun _ _ _ _ _ _ us hl => match us, hl with | [_], _ => rfl
  have F_lexeme_at := fun_mk (st := s_lexeme_at) l_lexeme_at c_lexeme_at k_lexeme_at
  have b_lexeme_at := F_lexeme_at.binds (ps := ["text", "place"]) fun _ _ _ _ _ _ us hl => match us, hl with | [_, _], _ => rfl
  have F_run_end := fun_mk (st := s_run_end) l_run_end c_run_end k_run_end
  have b_run_end := F_run_end.binds (ps := ["text", "place", "signs"]) fun _ _ _ _ _ _ us hl => match us, hl with | [_, _, _], _ => rfl
  have F_law_source := fun_mk (st := s_law_source) l_law_source c_law_source k_law_source
  have b_law_source := F_law_source.binds (ps := ["_law_script"]) fun _ _ _ _ _ _ us hl => match us, hl with | [_], _ => rfl
  have F_law_pick := fun_mk (st := s_law_pick) l_law_pick c_law_pick k_law_pick
  have b_law_pick := F_law_pick.binds (ps := ["_law_source_here", "_law_many"]) fun _ _ _ _ _ _ us hl => match us, hl with | [_, _], _ => rfl
  have F_law_of := fun_mk (st := s_law_of) l_law_of c_law_of k_law_of
  have b_law_of := F_law_of.binds (ps := ["_law_source_here", "_law_some"]) fun _ _ _ _ _ _ us hl => match us, hl with | [_, _], _ => rfl
  have F_law_spaced := fun_mk (st := s_law_spaced) l_law_spaced c_law_spaced k_law_spaced
  have b_law_spaced := F_law_spaced.binds (ps := ["_law_source_here", "_law_signs"]) fun _ _ _ _ _ _ us hl => match us, hl with | [_, _], _ => rfl
  have F_law_run := fun_mk (st := s_law_run) l_law_run c_law_run k_law_run
  have b_law_run := F_law_run.binds (ps := ["_law_text", "_law_place", "_law_signs"]) fun _ _ _ _ _ _ us hl => match us, hl with | [_, _, _], _ => rfl
  have F_law_is_word := fun_mk (st := s_law_is_word) l_law_is_word c_law_is_word k_law_is_word
  have b_law_is_word := F_law_is_word.binds (ps := ["_law_value"]) fun _ _ _ _ _ _ us hl => match us, hl with | [_], _ => rfl
  have F_law_lexeme := fun_mk (st := s_law_lexeme) l_law_lexeme c_law_lexeme k_law_lexeme
  have b_law_lexeme := F_law_lexeme.binds (ps := ["_law_text", "_law_place"]) fun _ _ _ _ _ _ us hl => match us, hl with | [_, _], _ => rfl
  have F_law_lexemes_due := fun_mk (st := s_law_lexemes_due) l_law_lexemes_due c_law_lexemes_due k_law_lexemes_due
  have b_law_lexemes_due := F_law_lexemes_due.binds (ps := ["_law_text"]) fun _ _ _ _ _ _ us hl => match us, hl with | [_], _ => rfl
  have F_law_any_word := fun_mk (st := s_law_any_word) l_law_any_word c_law_any_word k_law_any_word
  have b_law_any_word := F_law_any_word.binds (ps := ["_law_source_here"]) fun _ _ _ _ _ _ us hl => match us, hl with | [_], _ => rfl
  have F_law_told := fun_mk (st := s_law_told) l_law_told c_law_told k_law_told
  have b_law_told := F_law_told.binds (ps := ["_law_text"]) fun _ _ _ _ _ _ us hl => match us, hl with | [_], _ => rfl
  have F_law_hand_right := fun_mk (st := s_law_hand_right) l_law_hand_right c_law_hand_right k_law_hand_right
  have b_law_hand_right := F_law_hand_right.binds (ps := []) fun _ _ _ _ _ _ us hl => match us, hl with | [], _ => rfl
  have F_law_long_right := fun_mk (st := s_law_long_right) l_law_long_right c_law_long_right k_law_long_right
  have b_law_long_right := F_law_long_right.binds (ps := []) fun _ _ _ _ _ _ us hl => match us, hl with | [], _ => rfl
  have F_law := fun_mk (st := s_law) l_law c_law k_law
  have b_law := F_law.binds (ps := ["_law_script"]) fun _ _ _ _ _ _ us hl => match us, hl with | [_], _ => rfl
  have Fi_BadText := fun_mk (st := initOf s_BadText) li_BadText ci_BadText ki_BadText
  have bi_BadText := Fi_BadText.binds (ps := ["self", "place"]) fun _ _ _ _ _ _ us hl => match us, hl with | [_, _], _ => rfl
  exact ⟨{ a_lexemes := f_lexemes, fd_lexemes := _, F_lexemes := F_lexemes, b_lexemes := b_lexemes, m_lexemes := PySem.W.mg_of X G a_lexemes, a_scanned := f_scanned, fd_scanned := _, F_scanned := F_scanned, b_scanned := b_scanned, m_scanned := PySem.W.mg_of X G a_scanned, a_lexeme_at := f_lexeme_at, fd_lexeme_at := _, F_lexeme_at := F_lexeme_at, b_lexeme_at := b_lexeme_at, m_lexeme_at := PySem.W.mg_of X G a_lexeme_at, a_run_end := f_run_end, fd_run_end := _, F_run_end := F_run_end, b_run_end := b_run_end, m_run_end := PySem.W.mg_of X G a_run_end, a_law_source := f_law_source, fd_law_source := _, F_law_source := F_law_source, b_law_source := b_law_source, m_law_source := PySem.W.mg_of X G a_law_source, a_law_pick := f_law_pick, fd_law_pick := _, F_law_pick := F_law_pick, b_law_pick := b_law_pick, m_law_pick := PySem.W.mg_of X G a_law_pick, a_law_of := f_law_of, fd_law_of := _, F_law_of := F_law_of, b_law_of := b_law_of, m_law_of := PySem.W.mg_of X G a_law_of, a_law_spaced := f_law_spaced, fd_law_spaced := _, F_law_spaced := F_law_spaced, b_law_spaced := b_law_spaced, m_law_spaced := PySem.W.mg_of X G a_law_spaced, a_law_run := f_law_run, fd_law_run := _, F_law_run := F_law_run, b_law_run := b_law_run, m_law_run := PySem.W.mg_of X G a_law_run, a_law_is_word := f_law_is_word, fd_law_is_word := _, F_law_is_word := F_law_is_word, b_law_is_word := b_law_is_word, m_law_is_word := PySem.W.mg_of X G a_law_is_word, a_law_lexeme := f_law_lexeme, fd_law_lexeme := _, F_law_lexeme := F_law_lexeme, b_law_lexeme := b_law_lexeme, m_law_lexeme := PySem.W.mg_of X G a_law_lexeme, a_law_lexemes_due := f_law_lexemes_due, fd_law_lexemes_due := _, F_law_lexemes_due := F_law_lexemes_due, b_law_lexemes_due := b_law_lexemes_due, m_law_lexemes_due := PySem.W.mg_of X G a_law_lexemes_due, a_law_any_word := f_law_any_word, fd_law_any_word := _, F_law_any_word := F_law_any_word, b_law_any_word := b_law_any_word, m_law_any_word := PySem.W.mg_of X G a_law_any_word, a_law_told := f_law_told, fd_law_told := _, F_law_told := F_law_told, b_law_told := b_law_told, m_law_told := PySem.W.mg_of X G a_law_told, a_law_hand_right := f_law_hand_right, fd_law_hand_right := _, F_law_hand_right := F_law_hand_right, b_law_hand_right := b_law_hand_right, m_law_hand_right := PySem.W.mg_of X G a_law_hand_right, a_law_long_right := f_law_long_right, fd_law_long_right := _, F_law_long_right := F_law_long_right, b_law_long_right := b_law_long_right, m_law_long_right := PySem.W.mg_of X G a_law_long_right, a_law := _, fd_law := _, F_law := F_law, b_law := b_law, m_law := PySem.W.mg_of X G a_law, c_BLANKS := ⟨_, PySem.W.mg_of X G zc_BLANKS⟩, c_DIGITS := ⟨_, PySem.W.mg_of X G zc_DIGITS⟩, c_LETTERS := ⟨_, PySem.W.mg_of X G zc_LETTERS⟩, c_LONGEST_WORD := ⟨_, PySem.W.mg_of X G zc_LONGEST_WORD⟩, c_SIGNS := ⟨_, PySem.W.mg_of X G zc_SIGNS⟩, n_abs := PySem.W.mg_none_of X G zn_abs, n_int := PySem.W.mg_none_of X G zn_int, n_isinstance := PySem.W.mg_none_of X G zn_isinstance, n_len := PySem.W.mg_none_of X G zn_len, n_max := PySem.W.mg_none_of X G zn_max, n_range := PySem.W.mg_none_of X G zn_range, n_repr := PySem.W.mg_none_of X G zn_repr, n_str := PySem.W.mg_none_of X G zn_str, e_BadText := { C := C_BadText, fI := fi_BadText, fd := _, oex := { cls := ⟨nm_BadText, q_BadText, N_BadText, bs_BadText, _, sn_BadText, sub_BadText, ab_BadText, col_BadText, dd_BadText, m0_BadText, m1_BadText, m2_BadText, m3_BadText, m5_BadText, xL_BadText, rfl⟩, sa := sa_BadText, exC := eC_BadText, tyC := tC_BadText, kC := kC_BadText }, xf := ⟨ga_BadText, gg_BadText, eC_BadText, hC_BadText⟩, iC := ai_BadText, tI := ti_BadText, noF := nf_BadText, F := Fi_BadText, b := bi_BadText, m := PySem.W.mg_of X G aC_BadText, te := exm_own eC_BadText iC_BadText tC_BadText sC_BadText } }, rfl, fun s v => .of_eq rfl⟩
theorem walk {l : PySem.W.OpenLaw} {q : Program} {loose : List Str} {XP : (Str → Option Value) → Heap → Prop} {YP : World → Heap → Prop} {d : DefRec} {K : Params → PySem.W.Frag} (hn : l.most = some 63) (hdf : d.params.defaults = [])
    (hY : ∀ (w : World) (h : Heap), YP w h → (K w.params).In h)
    (F : ∀ (w : World) (mg : Str → Option Value) (fa : Addr) (h : Heap), (K w.params).In h → h.Ns mainGlobals mg → mg d.name = some (.ref fa) →
      ∃ fd : FuncData, (∀ (s : Shared) (u : Value), BindsTo s fd ⟨[u], []⟩ [("_law_script", u)]) ∧ ∀ base : Heap, (K w.params).In base → base.Ns mainGlobals mg → FnG l.prog w (K w.params) mg base 9 fa fd ["_law_script"] (spLaw (K w.params))) :
    PySem.W.WalkO q loose XP YP l.row.toRowW d [] (fun f vs => PySem.call f vs) :=
  walk_ofG (n := 63) (k := 9) (x := "_law_script") (sp := fun w => spLaw (K w.params)) hn (by decide) hdf ⟨rfl, by decide, by decide⟩ hY F fun _ _ a ns hl _ hS => ⟨a, ns, rfl, hS, hl, fun _ => rfl⟩
end My
open PySem PySem.W PyProof.Rows
set_option maxRecDepth 100000 in
set_option maxHeartbeats 0 in
theorem PySem.Challenge.cw_eitherbarter_k06_lexemes_of_texts_holds : PySem.Challenge.rw_eitherbarter_k06_lexemes_of_texts.Holds := by
  w_on; o_law; k_head; (case hw => w_witness2)
  k_fill
  refine My.walk (l := PySem.Challenge.rw_eitherbarter_k06_lexemes_of_texts) rfl rfl (fun w h Y => PySem.W.kIn_of Y) ?F
  case F =>
    intro w mg fa h KX G hmg
    refine' Exists.elim (My.tx_mk KX G hmg ?a_lexemes ?l_lexemes ?c_lexemes ?k_lexemes ?a_scanned ?l_scanned ?c_scanned ?k_scanned ?a_lexeme_at ?l_lexeme_at ?c_lexeme_at ?k_lexeme_at ?a_run_end ?l_run_end ?c_run_end ?k_run_end ?a_law_source ?l_law_source ?c_law_source ?k_law_source ?a_law_pick ?l_law_pick ?c_law_pick ?k_law_pick ?a_law_of ?l_law_of ?c_law_of ?k_law_of ?a_law_spaced ?l_law_spaced ?c_law_spaced ?k_law_spaced ?a_law_run ?l_law_run ?c_law_run ?k_law_run ?a_law_is_word ?l_law_is_word ?c_law_is_word ?k_law_is_word ?a_law_lexeme ?l_law_lexeme ?c_law_lexeme ?k_law_lexeme ?a_law_lexemes_due ?l_law_lexemes_due ?c_law_lexemes_due ?k_law_lexemes_due ?a_law_any_word ?l_law_any_word ?c_law_any_word ?k_law_any_word ?a_law_told ?l_law_told ?c_law_told ?k_law_told ?a_law_hand_right ?l_law_hand_right ?c_law_hand_right ?k_law_hand_right ?a_law_long_right ?l_law_long_right ?c_law_long_right ?k_law_long_right ?a_law ?l_law ?c_law ?k_law ?aC_BadText ?xL_BadText ?sa_BadText ?ga_BadText ?gg_BadText ?nf_BadText ?ai_BadText ?ti_BadText ?li_BadText ?ci_BadText ?ki_BadText ?kC_BadText ?eC_BadText ?tC_BadText ?hC_BadText ?iC_BadText ?sC_BadText ?zc_BLANKS ?zc_DIGITS ?zc_LETTERS ?zc_LONGEST_WORD ?zc_SIGNS ?zn_abs ?zn_int ?zn_isinstance ?zn_len ?zn_max ?zn_range ?zn_repr ?zn_str) (fun T hT => ?fin)
    (case a_lexemes => k_is)
    (case l_lexemes => k_is)
    (case c_lexemes => k_is)
    (case k_lexemes => k_is)
    (case a_scanned => k_is)
    (case l_scanned => k_is)
    (case c_scanned => k_is)
    (case k_scanned => k_is)
    (case a_lexeme_at => k_is)
    (case l_lexeme_at => k_is)
    (case c_lexeme_at => k_is)
    (case k_lexeme_at => k_is)
    (case a_run_end => k_is)
    (case l_run_end => k_is)
    (case c_run_end => k_is)
    (case k_run_end => k_is)
    (case a_law_source => k_is)
    (case l_law_source => k_is)
    (case c_law_source => k_is)
    (case k_law_source => k_is)
    (case a_law_pick => k_is)
    (case l_law_pick => k_is)
    (case c_law_pick => k_is)
    (case k_law_pick => k_is)
    (case a_law_of => k_is)
    (case l_law_of => k_is)
    (case c_law_of => k_is)
    (case k_law_of => k_is)
    (case a_law_spaced => k_is)
    (case l_law_spaced => k_is)
    (case c_law_spaced => k_is)
    (case k_law_spaced => k_is)
    (case a_law_run => k_is)
    (case l_law_run => k_is)
    (case c_law_run => k_is)
    (case k_law_run => k_is)
    (case a_law_is_word => k_is)
    (case l_law_is_word => k_is)
    (case c_law_is_word => k_is)
    (case k_law_is_word => k_is)
    (case a_law_lexeme => k_is)
    (case l_law_lexeme => k_is)
    (case c_law_lexeme => k_is)
    (case k_law_lexeme => k_is)
    (case a_law_lexemes_due => k_is)
    (case l_law_lexemes_due => k_is)
    (case c_law_lexemes_due => k_is)
    (case k_law_lexemes_due => k_is)
    (case a_law_any_word => k_is)
    (case l_law_any_word => k_is)
    (case c_law_any_word => k_is)
    (case k_law_any_word => k_is)
    (case a_law_told => k_is)
    (case l_law_told => k_is)
    (case c_law_told => k_is)
    (case k_law_told => k_is)
    (case a_law_hand_right => k_is)
    (case l_law_hand_right => k_is)
    (case c_law_hand_right => k_is)
    (case k_law_hand_right => k_is)
    (case a_law_long_right => k_is)
    (case l_law_long_right => k_is)
    (case c_law_long_right => k_is)
    (case k_law_long_right => k_is)
    (case a_law => k_is)
    (case l_law => k_is)
    (case c_law => k_is)
    (case k_law => k_is)
    (case aC_BadText => k_is)
    (case xL_BadText => k_is)
    (case sa_BadText => k_is)
    (case ga_BadText => k_is)
    (case gg_BadText => k_is)
    (case nf_BadText => k_is)
    (case ai_BadText => k_is)
    (case ti_BadText => k_is)
    (case li_BadText => k_is)
    (case ci_BadText => k_is)
    (case ki_BadText => k_is)
    (case kC_BadText => k_is)
    (case eC_BadText => k_is)
    (case tC_BadText => k_is)
    (case hC_BadText => k_is)
    (case iC_BadText => k_is)
    (case sC_BadText => k_is)
    (case zc_BLANKS => k_is)
    (case zc_DIGITS => k_is)
    (case zc_LETTERS => k_is)
    (case zc_LONGEST_WORD => k_is)
    (case zc_SIGNS => k_is)
    (case zn_abs => k_is)
    (case zn_int => k_is)
    (case zn_isinstance => k_is)
    (case zn_len => k_is)
    (case zn_max => k_is)
    (case zn_range => k_is)
    (case zn_repr => k_is)
    (case zn_str => k_is)
    (case fin => (obtain ⟨e, hb⟩ := hT; subst e; exact ⟨T.fd_law, hb, fun base _ _ => My.ok_law T⟩))
#print axioms PySem.Challenge.cw_eitherbarter_k06_lexemes_of_texts_holds
