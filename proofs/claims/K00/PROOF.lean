import PyProof.Rows.All
import Wide.All
import OpenK.AllK
import Wide.FinOn
import HandS.ForMost
import HandS.Gcd
import HandS.Wide
import HandS.IsInst
import HandS.Style
import HandS.Zip
import HandS.Evl
import HandS.ExcInit
import HandS.ExcOwn
import HandS.ExcField
import HandS.WordsExc
import HandS.StrMore
import HandS.Sort
import HandS.DictComp
import HandS.TupMul
import HandS.Walk
import HandS.Conv
import HandS.Flow
import HandS.RaiseMore
import HandS.Deep
import HandS.List
import HandS.Rev
import HandS.TryOnly
import HandS.Lambda
import KE.GoesMore
import KE.GoesEnum
import KE.KDictZip
import KE.KDictItemsList
import KE.KNestM
import KE.KExcInit
import PyProof.ExcBaseAll.LookupError
import PyProof.ListNew
import PyProof.ReprRoads
import PyProof.RowDictHeap
import PyProof.ReprBulk
import PyProof.OldK
import KE.KExcIs
import HandS.ExcValue
import PySem.Challenge.RW_eitherbarter_k00_errors
set_option Elab.async false
set_option linter.all false
set_option maxRecDepth 100000
set_option maxHeartbeats 4000000
namespace My
open PySem PySem.Spec PyProof.Rows L2
/-! ### rules of my own -/
/-- // by any divisor but 0, below 2 ^ 9000 in size -/
def CDivX (_ j : Int) : Prop := j ≠ 0 ∧ j.natAbs.log2 < 9000
section
variable {X : Cx}
theorem op_fdivX : OpR X (binaryOp .FloorDiv) (rI CDivX fun i j => .int (i.fdiv j)) := opI fun _ _ _ _ _ _ _ hc q =>
  floordiv_int hc.1 q (.inl (PyProof.noPylong_of_log2 hc.2))
def rReprB : List V → Hp → VK → Prop := fun xs H Q => ∃ b : Bool, xs = [.bl b] ∧ Q (.str (if b then "True" else "False")) H
theorem call_repr_bl : CallR X (.builtin "repr") rReprB := by
  intro pins s σ H xs us Q I r h
  obtain ⟨b, rfl, q⟩ := h
  obtain ⟨u, rfl, r1⟩ := vals1 r
  cases (show u = Value.bool b from r1)
  exact PySem.P.repr_of_bool ⟨.str _, H, I.tok _, ⟨_, rfl⟩, q⟩
end
theorem iteD {p : Prop} [Decidable p] {A B : Prop} (h1 : p → A) (h2 : ¬ p → B) : if decide p = true then A else B := by
  by_cases h : p
  · rw [decide_eq_true h]; exact iteT (h1 h)
  · rw [decide_eq_false h]; exact iteF (h2 h)
theorem iteN {p : Prop} [Decidable p] {A B : Prop} (h1 : ¬ p → A) (h2 : p → B) : if (!decide p) = true then A else B := by
  by_cases h : p
  · rw [decide_eq_true h]; exact iteF (h2 h)
  · rw [decide_eq_false h]; exact iteT (h1 h)
/-- a while whose test leaves the heap as it is -/
theorem while_b {c : TT} {tb : TS} {D : Ends} {σ : L2.St} {H : Hp} (Pv : L2.St → Hp → Prop) (μ : L2.St → Hp → Nat) (h0 : Pv σ H)
    (hs : ∀ σ H, Pv σ H → ∃ b, (∀ Q : Bool → Hp → Prop, Q b H → c σ H Q) ∧
      (if b = true then tb { D with nx := fun σ' H' => Pv σ' H' ∧ μ σ' H' < μ σ H, ct := fun σ' H' => Pv σ' H' ∧ μ σ' H' < μ σ H, bk := D.nx } σ H else D.nx σ H)) : tWhile c tb D σ H := by
  refine ⟨fun m σ H => m = μ σ H ∧ Pv σ H, ⟨_, rfl, h0⟩, ?_⟩
  rintro m σ H ⟨rfl, p⟩
  obtain ⟨b, hc, ht⟩ := hs σ H p
  refine hc _ ?_
  cases b with
  | true =>
    rw [if_pos rfl] at ht
    exact ⟨_, fun σ' H' ⟨p', l⟩ => ⟨_, l, rfl, p'⟩, ht⟩
  | false =>
    rw [if_neg Bool.false_ne_true] at ht
    exact ht
theorem same_new {H : Hp} {p : Addr} (h : H p = none) (o : HO) : Same H (upd H p o) := fun b u q => by rw [upd_ne (ne_of_none q h)]; exact q
theorem small {n : Nat} (h : n ≤ 1000) : n ≤ sizeLine := Nat.le_of_lt (small1000 h)
/-! ### the source of draws: a dict at s, the cells' list at c -/
def srcD (c : Addr) (l m t : Int) : List (Key × V) := [(.inr "cells", .ref c), (.inr "left", .int l), (.inr "mixed", .int m), (.inr "turn", .int t)]
structure SrcL (H : Hp) (s c : Addr) (l m t : Int) (ns : List Int) : Prop where
  hs : H s = some (.dK (srcD c l m t))
  hc : H c = some (.lst (ns.map V.int))
  l0 : 0 ≤ l
  m0 : 0 ≤ m
  m1 : m < 4294967296
  t0 : 0 ≤ t
  n0 : ∀ n ∈ ns, 0 ≤ n
  len : ns.length ≤ 63
def Src (H : Hp) (s c : Addr) : Prop := ∃ l m t ns, SrcL H s c l m t ns
theorem k_cl : ¬ ((Sum.inr "cells" : Key) = (Sum.inr "left" : Key)) := by decide +kernel
theorem k_cm : ¬ ((Sum.inr "cells" : Key) = (Sum.inr "mixed" : Key)) := by decide +kernel
theorem k_ct : ¬ ((Sum.inr "cells" : Key) = (Sum.inr "turn" : Key)) := by decide +kernel
theorem k_lm : ¬ ((Sum.inr "left" : Key) = (Sum.inr "mixed" : Key)) := by decide +kernel
theorem k_lt : ¬ ((Sum.inr "left" : Key) = (Sum.inr "turn" : Key)) := by decide +kernel
theorem k_mt : ¬ ((Sum.inr "mixed" : Key) = (Sum.inr "turn" : Key)) := by decide +kernel
theorem get_cells (c : Addr) (l m t : Int) : valV (srcD c l m t) (Sum.inr "cells") = some (.ref c) := valV_pos rfl
theorem get_left (c : Addr) (l m t : Int) : valV (srcD c l m t) (Sum.inr "left") = some (.int l) := by
  unfold srcD; rw [valV_neg k_cl, valV_pos rfl]
theorem get_mixed (c : Addr) (l m t : Int) : valV (srcD c l m t) (Sum.inr "mixed") = some (.int m) := by
  unfold srcD; rw [valV_neg k_cm, valV_neg k_lm, valV_pos rfl]
theorem get_turn (c : Addr) (l m t : Int) : valV (srcD c l m t) (Sum.inr "turn") = some (.int t) := by
  unfold srcD; rw [valV_neg k_ct, valV_neg k_lt, valV_neg k_mt, valV_pos rfl]
theorem put_there {kvs : List (Key × V)} {k : Key} {u : V} (v : V) (h : valV kvs k = some u) : putK kvs k v = kvs.map (fun kv => if kv.1 = k then (kv.1, v) else kv) := by
  unfold putK
  rw [valV_any, h]
  exact if_pos rfl
theorem put_left (c : Addr) (l m t v : Int) : putK (srcD c l m t) (Sum.inr "left") (.int v) = srcD c v m t := by
  rw [put_there _ (get_left c l m t)]
  show [if (Sum.inr "cells" : Key) = (Sum.inr "left" : Key) then ((Sum.inr "cells" : Key), V.int v) else (Sum.inr "cells", V.ref c), if (Sum.inr "left" : Key) = (Sum.inr "left" : Key) then ((Sum.inr "left" : Key), V.int v) else (Sum.inr "left", V.int l),
    if (Sum.inr "mixed" : Key) = (Sum.inr "left" : Key) then ((Sum.inr "mixed" : Key), V.int v) else (Sum.inr "mixed", V.int m), if (Sum.inr "turn" : Key) = (Sum.inr "left" : Key) then ((Sum.inr "turn" : Key), V.int v) else (Sum.inr "turn", V.int t)] = _
  rw [if_neg k_cl, if_pos rfl, if_neg (Ne.symm k_lm), if_neg (Ne.symm k_lt)]
  rfl
theorem put_mixed (c : Addr) (l m t v : Int) : putK (srcD c l m t) (Sum.inr "mixed") (.int v) = srcD c l v t := by
  rw [put_there _ (get_mixed c l m t)]
  show [if (Sum.inr "cells" : Key) = (Sum.inr "mixed" : Key) then ((Sum.inr "cells" : Key), V.int v) else (Sum.inr "cells", V.ref c), if (Sum.inr "left" : Key) = (Sum.inr "mixed" : Key) then ((Sum.inr "left" : Key), V.int v) else (Sum.inr "left", V.int l),
    if (Sum.inr "mixed" : Key) = (Sum.inr "mixed" : Key) then ((Sum.inr "mixed" : Key), V.int v) else (Sum.inr "mixed", V.int m), if (Sum.inr "turn" : Key) = (Sum.inr "mixed" : Key) then ((Sum.inr "turn" : Key), V.int v) else (Sum.inr "turn", V.int t)] = _
  rw [if_neg k_cm, if_neg k_lm, if_pos rfl, if_neg (Ne.symm k_mt)]
  rfl
theorem put_turn (c : Addr) (l m t v : Int) : putK (srcD c l m t) (Sum.inr "turn") (.int v) = srcD c l m v := by
  rw [put_there _ (get_turn c l m t)]
  show [if (Sum.inr "cells" : Key) = (Sum.inr "turn" : Key) then ((Sum.inr "cells" : Key), V.int v) else (Sum.inr "cells", V.ref c), if (Sum.inr "left" : Key) = (Sum.inr "turn" : Key) then ((Sum.inr "left" : Key), V.int v) else (Sum.inr "left", V.int l),
    if (Sum.inr "mixed" : Key) = (Sum.inr "turn" : Key) then ((Sum.inr "mixed" : Key), V.int v) else (Sum.inr "mixed", V.int m), if (Sum.inr "turn" : Key) = (Sum.inr "turn" : Key) then ((Sum.inr "turn" : Key), V.int v) else (Sum.inr "turn", V.int t)] = _
  rw [if_neg k_ct, if_neg k_lt, if_neg k_mt, if_pos rfl]
  rfl
theorem srcD_made (c : Addr) (m : Int) : mergeK [] (srcD c 1 m 0) = srcD c 1 m 0 := by
  have p1 : putK ([] : List (Key × V)) (Sum.inr "cells" : Key) (V.ref c) = [((Sum.inr "cells" : Key), V.ref c)] := by rw [putK_new _ valV_nil]; rfl
  have p2 : putK ([((Sum.inr "cells" : Key), V.ref c)] : List (Key × V)) (Sum.inr "left" : Key) (V.int 1) = [((Sum.inr "cells" : Key), V.ref c), ((Sum.inr "left" : Key), V.int 1)] := by
    rw [putK_new _ (by rw [valV_neg k_cl, valV_nil])]; rfl
  have p3 : putK ([((Sum.inr "cells" : Key), V.ref c), ((Sum.inr "left" : Key), V.int 1)] : List (Key × V)) (Sum.inr "mixed" : Key) (V.int m) = [((Sum.inr "cells" : Key), V.ref c), ((Sum.inr "left" : Key), V.int 1), ((Sum.inr "mixed" : Key), V.int m)] := by
    rw [putK_new _ (by rw [valV_neg k_cm, valV_neg k_lm, valV_nil])]; rfl
  have p4 : putK ([((Sum.inr "cells" : Key), V.ref c), ((Sum.inr "left" : Key), V.int 1), ((Sum.inr "mixed" : Key), V.int m)] : List (Key × V)) (Sum.inr "turn" : Key) (V.int 0) = srcD c 1 m 0 := by
    rw [putK_new _ (by rw [valV_neg k_ct, valV_neg k_lt, valV_neg k_mt, valV_nil])]; rfl
  show putK (putK (putK (putK [] (Sum.inr "cells" : Key) (V.ref c)) (Sum.inr "left" : Key) (V.int 1)) (Sum.inr "mixed" : Key) (V.int m)) (Sum.inr "turn" : Key) (V.int 0) = srcD c 1 m 0
  rw [p1, p2, p3, p4]
theorem SrcL.ne {H : Hp} {s c : Addr} {l m t : Int} {ns : List Int} (h : SrcL H s c l m t ns) : s ≠ c := ne_of h.hs h.hc (by intro z; cases z)
/-- all but the source stands as it stood; the source is one -/
structure Go (s c : Addr) (H H' : Hp) : Prop where
  keep : ∀ a o, a ≠ s → a ≠ c → H a = some o → H' a = some o
  src : Src H' s c
theorem Src.ne_tup {H : Hp} {s c a : Addr} {xs : List V} (h : Src H s c) (e : H a = some (.tup xs)) : a ≠ s ∧ a ≠ c := by
  obtain ⟨l, m, t, ns, h⟩ := h
  exact ⟨ne_of e h.hs (by intro z; cases z), ne_of e h.hc (by intro z; cases z)⟩
theorem Src.ne_none {H : Hp} {s c a : Addr} (h : Src H s c) (e : H a = none) : a ≠ s ∧ a ≠ c := by
  obtain ⟨l, m, t, ns, h⟩ := h
  refine ⟨fun q => ?_, fun q => ?_⟩
  · rw [q, h.hs] at e
    cases e
  · rw [q, h.hc] at e
    cases e
theorem Src.same {H H' : Hp} {s c : Addr} (h : Src H s c) (e : Same H H') : Src H' s c := by
  obtain ⟨l, m, t, ns, h⟩ := h
  exact ⟨l, m, t, ns, e _ _ h.hs, e _ _ h.hc, h.l0, h.m0, h.m1, h.t0, h.n0, h.len⟩
theorem Go.refl {H : Hp} {s c : Addr} (h : Src H s c) : Go s c H H := ⟨fun _ _ _ _ e => e, h⟩
theorem Go.of {H H' : Hp} {s c : Addr} (h : Src H s c) (e : Same H H') : Go s c H H' := ⟨fun a o _ _ q => e a o q, h.same e⟩
theorem Go.trans {H H1 H2 : Hp} {s c : Addr} (a : Go s c H H1) (b : Go s c H1 H2) : Go s c H H2 := ⟨fun x o h1 h2 e => b.keep x o h1 h2 (a.keep x o h1 h2 e), b.src⟩
theorem Go.then {H H1 H2 : Hp} {s c : Addr} (a : Go s c H H1) (b : Same H1 H2) : Go s c H H2 := a.trans (.of a.src b)
theorem Go.tup {H H' : Hp} {s c a : Addr} {xs : List V} (g : Go s c H H') (h : Src H s c) (e : H a = some (.tup xs)) : H' a = some (.tup xs) :=
  g.keep _ _ (h.ne_tup e).1 (h.ne_tup e).2 e
theorem Go.lst {H H' : Hp} {s c a : Addr} {xs : List V} (g : Go s c H H') (h : Src H s c) (e : H a = some (.lst xs)) (n : a ≠ c) : H' a = some (.lst xs) := by
  obtain ⟨l, m, t, ns, h⟩ := h
  exact g.keep _ _ (ne_of e h.hs (by intro z; cases z)) n e
theorem Go.free {H H' : Hp} {s c a : Addr} (g : Go s c H H') (e : H' a = none) : H a = none := by
  have n := g.src.ne_none e
  cases q : H a with
  | none => rfl
  | some o =>
    rw [g.keep _ _ n.1 n.2 q] at e
    cases e
/-! ### what the draws promise -/
def spPick : Sp := fun vs H Q _ => ∃ (s c : Addr) (n : Int), vs = [.ref s, .int n] ∧ Src H s c ∧ 1 ≤ n ∧ n < 1000000 ∧
  ∀ (k : Int) (H' : Hp), 0 ≤ k → k < n → Go s c H H' → Q (.int k) H'
def spOf (K : PySem.W.Frag) : Sp := fun vs H Q _ => ∃ (s c a : Addr) (xs : List V), vs = [.ref s, .ref a] ∧ Src H s c ∧ H a = some (.lst xs) ∧ a ≠ c ∧ 1 ≤ xs.length ∧ xs.length < 1000000 ∧
  ∀ (i : Nat) (x : V) (H' : Hp), xs[i]? = some x → Go s c H H' → Q x H'
def spSource (K : PySem.W.Frag) : Sp := fun vs H Q _ => ∃ (a : Addr) (ns : List Int), vs = [.ref a] ∧ SqL K H a (ns.map V.int) ∧ ns.length ≤ 63 ∧
  ∀ (s c : Addr) (H' : Hp), Same H H' → H s = none → H c = none → Src H' s c → Q (.ref s) H'
def spLaw (K : PySem.W.Frag) : Sp := fun vs H Q _ => ∃ (a : Addr) (ns : List Int), vs = [.ref a] ∧ SqL K H a (ns.map V.int) ∧ ns.length ≤ 63 ∧ ∀ H', Q (.bl true) H'
end My
namespace My
open PySem PySem.Spec PyProof.Rows L2
section
variable {X : Cx}
theorem pe_gstr {x : Str} {z : Str} {pos : Pos} (hg : Gl X x) (hm : ∃ t, X.mg x = some (.str z t)) (hd : (x == ("__debug__" : Str)) = false := by decide) : PE X (.Name x pos) (tC (.str z)) := by
  obtain ⟨t, e⟩ := hm
  exact pe_glob hg e ⟨t, rfl⟩ hd
theorem pe_gint {x : Str} {i : Int} {pos : Pos} (hg : Gl X x) (hm : ∃ t, X.mg x = some (.int i t)) (hd : (x == ("__debug__" : Str)) = false := by decide) : PE X (.Name x pos) (tC (.int i)) := by
  obtain ⟨t, e⟩ := hm
  exact pe_glob hg e ⟨t, rfl⟩ hd
end
/-! ### a class of errors with one field, kept by its own __init__ -/
def classBody : Stmt → List Stmt
  | .ClassDef _ _ _ b .. => b
  | _ => []
def initOf (st : Stmt) : Stmt := (classBody st).getD 0 (.Pass ⟨0, 0, 0, 0⟩)
structure OwnE (K : PySem.W.Frag) (mg : Str → Option Value) (x q f : Str) (st : Stmt) where
  C : Addr
  fI : Addr
  fd : FuncData
  oex : OexC K C
  xf : XfC K C
  iC : PySem.W.findIn K (.ref C) "__init__" = some (some (.ref fI))
  tI : PySem.W.typeIn K (.ref fI) = some (.type "function")
  noF : PySem.W.findIn K (.ref C) f = some none
  F : Fun K "__init__" q (initOf st) fI fd
  b : Binds K fd ["self", f] []
  m : mg x = some (.ref C)
  te : PySem.W.exmOne K (.ref C) (.ref C) = some true
/-- an error of the class at C whose field f is v -/
def spInit (C : Addr) (f : Str) : Sp := fun vs H Q _ => ∃ (a : Addr) (v : V), vs = [.ref a, v] ∧ H a = some (exo a C none) ∧
  ∀ dx, H dx = none → dx ≠ a → Q .non (upd (upd H dx (exd dx [(f, v)])) a (exo a C (some dx)))
end My
namespace My
open PySem PySem.Spec PyProof.Rows L2
/-- an error of the class at S is one that «except S» takes -/
theorem exm_own {K : PySem.W.Frag} {S : Addr} (h1 : PySem.W.subIn K (.ref S) (.type "BaseException") = some true) (h2 : PySem.W.isClsIn K S = true) (h3 : PySem.W.typeIn K (.ref S) = some (.type "type")) (h4 : PySem.W.subIn K (.ref S) (.ref S) = some true) : PySem.W.exmOne K (.ref S) (.ref S) = some true := by
  have h2' : (PySem.W.clsIn K S).isSome = true := h2
  unfold PySem.W.exmOne
  unfold PySem.W.kitCls
  simp [h1, h2', h3, h4]
end My
namespace My
open PySem PySem.Spec PyProof.Rows L2
/-! ### zip of two sequences, each a list or a tuple -/
def SqK (k : Bool) (K : PySem.W.Frag) (H : Hp) (a : Addr) (xs : List V) : Prop := match k with
  | true => SqT K H a xs
  | false => SqL K H a xs
def ItK (k : Bool) (h : Heap) (it a : Addr) (i : Nat) : Prop := match k with
  | true => h.IsTupleIter it a i
  | false => h.IsListIter it a i
def HeK (k : Bool) (h : Heap) (a : Addr) (its : Array Value) : Prop := match k with
  | true => h.IsTuple a its
  | false => h.IsList a its
theorem drawK {prog : Program} {w : World} {A : Around} (hh : A.handled = none) (k : Bool) (it l : Addr) (hne : l ≠ it) (items : Array Value) :
    Draws prog w A it [it, l] items.size (fun i v => items[i]? = some v) (fun i h => ItK k h it l i ∧ HeK k h l items) := by
  cases k with
  | true => exact Draws.tuple hh it l hne items
  | false => exact Draws.list hh it l hne items
theorem ItK.to {k : Bool} {h h' : Heap} {it a : Addr} {i : Nat} (x : ItK k h it a i) (q : ∀ o, h.get? it = some o → h'.get? it = some o) : ItK k h' it a i := by
  cases k with
  | true => exact Heap.IsTupleIter.at x q
  | false => exact Heap.IsListIter.at x q
theorem ItK.ob {k : Bool} {h : Heap} {it a : Addr} {i : Nat} (x : ItK k h it a i) : ∃ o, h.get? it = some o ∧ ∀ v, o.data ≠ .cell v := by
  cases k with
  | true => obtain ⟨o, e, _, d⟩ := x; exact ⟨o, e, fun v q => by rw [d] at q; cases q⟩
  | false => obtain ⟨o, e, _, d⟩ := x; exact ⟨o, e, fun v q => by rw [d] at q; cases q⟩
section
variable {X : Cx} {pins : List (Addr × Obj)} {σ : L2.St} {H : Hp} {s : Shared}
theorem readK (I : Inv X pins σ H s) {k : Bool} {a : Addr} {xs : List V} (h : SqK k X.K H a xs) : ∃ its : List Value, Vals xs its ∧ HeK k s.heap a its.toArray ∧ a < s.heap.objs.size := by
  cases k with
  | true =>
    obtain ⟨its, r, p, _⟩ := I.tuple (show SqT X.K H a xs from h)
    obtain ⟨o, e, _⟩ := id p
    exact ⟨its, r, p, Heap.lt_size e⟩
  | false =>
    obtain ⟨its, r, p, _⟩ := I.list (show SqL X.K H a xs from h)
    exact ⟨its, r, p.isList, p.lt⟩
theorem injK (I : Inv X pins σ H s) {k : Bool} {a : Addr} {xs ys : List V} (h : SqK k X.K H a xs) (h' : SqK k X.K H a ys) : xs = ys := by
  cases k with
  | true => exact I.tuple_inj h h'
  | false => exact I.list_inj h h'
end
/-- the sequences at a and b as they stand at each turn -/
def ItzM (k l : Bool) (K : PySem.W.Frag) (a b : Addr) : It :=
  ⟨fun n M => ∃ (p q : List V) (u v : V), SqK k K M a p ∧ SqK l K M b q ∧ p[n]? = some u ∧ q[n]? = some v,
    fun n M y M' => ∃ (C : Addr) (u v : V), y = .ref C ∧ M C = none ∧ M' = upd M C (.tup [u, v]) ∧ (∀ p, SqK k K M a p → p[n]? = some u) ∧ ∀ q, SqK l K M b q → q[n]? = some v,
    fun n M => ∃ p q : List V, SqK k K M a p ∧ SqK l K M b q ∧ (n = p.length ∨ n = q.length) ∧ n ≤ p.length ∧ n ≤ q.length⟩
def ZSt (k l : Bool) (z e f i j a b : Addr) (n : Nat) (h : Heap) : Prop :=
  IsZip h z e f .none ∧ IsTupOf2 h e (.ref i) (.ref j) ∧ (∃ x y, IsTupOf2 h f x y) ∧ ItK k h i a n ∧ ItK l h j b n
theorem zsep {z e f i j a b : Addr} (D : ZipApart z e f i j a b) : ZipSep2 z e f i j [i, a] [j, b] where
  TIz := D.TIz
  TOz := D.TOz
  TITO := D.TITO
  TIi1 := D.TIi1
  mem1 := by simp
  zf1 := by simp [D.i1z.symm, D.l1z.symm]
  Tf1 := by simp [D.TOi1, D.l1TO.symm]
  TIi2 := D.TIi2
  mem2 := by simp
  zf2 := by simp [D.i2z.symm, D.l2z.symm]
  Tf2 := by simp [D.TOi2, D.l2TO.symm]
  sep1_2 := by simp [D.i12, D.l2i1.symm]
  sep2_1 := by simp [D.i12.symm, D.l1i2.symm]
theorem in5 {z e f i j c : Addr} (h : c ∈ [z, e, f, i, j]) : c = z ∨ c = e ∨ c = f ∨ c = i ∨ c = j := by simpa using h
theorem turn_zipM {P : Program} {w : World} {K : PySem.W.Frag} {elts : List Expr} {kk : Nat} {tpos : Pos} {k l : Bool} {a b z e f i j : Addr} (D : ZipApart z e f i j a b) :
    Turn P w K (.Tuple elts kk tpos) (ItzM k l K a b) [z, e, f, i, j] z (ZSt k l z e f i j a b) where
  mem := by simp
  obj := by
    intro n h S c hc
    obtain ⟨S1, S2, ⟨x, y, S3⟩, S4, S5⟩ := S
    rcases in5 hc with rfl | rfl | rfl | rfl | rfl
    · exact ⟨_, S1, fun v q => nomatch q⟩
    · exact ⟨_, S2, fun v q => nomatch q⟩
    · exact ⟨_, S3, fun v q => nomatch q⟩
    · exact S4.ob
    · exact S5.ob
  keep := by
    intro n h h' S q
    obtain ⟨S1, S2, ⟨x, y, S3⟩, S4, S5⟩ := S
    exact ⟨q _ (by simp) _ S1, q _ (by simp) _ S2, ⟨x, y, q _ (by simp) _ S3⟩, S4.to (q _ (by simp)), S5.to (q _ (by simp))⟩
  item := by
    intro X hP hw hK hc n pins s σ M E I fr S go
    subst hP hw hK
    obtain ⟨S1, S2, ⟨x0, y0, S3⟩, S4, S5⟩ := S
    obtain ⟨p, q, u, v, Lp, Lq, eu, ev⟩ := go
    obtain ⟨is, rp, hp, _⟩ := readK I Lp
    obtain ⟨js, rq, hq, _⟩ := readK I Lq
    have lp : n < is.toArray.size := by
      have := (List.getElem?_eq_some_iff.mp eu).1
      have e := rp.length
      rw [List.size_toArray]; omega
    have lq : n < js.toArray.size := by
      have := (List.getElem?_eq_some_iff.mp ev).1
      have e := rq.length
      rw [List.size_toArray]; omega
    have zl : z < s.heap.objs.size := Heap.lt_size S1
    have hd1 : X.A.in1.handled = none := I.ok.hd hc
    refine wpAny_pyNext_zipD2_item (zsep D) (drawK hd1 k i a D.l1i1 is.toArray) (drawK hd1 l j b D.l2i2 js.toArray) S1 S2 S3 ⟨S4, hp⟩ ⟨S5, hq⟩ lp lq ?_
    intro u' v' g tk Pu Pv z2 f2 s4 s5 hT sz kp
    obtain ⟨w1, hw1, r1⟩ := rp.get eu
    obtain ⟨w2, hw2, r2⟩ := rq.get ev
    obtain rfl : u' = w1 := by
      have h1 : is[n]? = some u' := by simpa using Pu
      rw [hw1] at h1; exact (Option.some.inj h1).symm
    obtain rfl : v' = w2 := by
      have h1 : js[n]? = some v' := by simpa using Pv
      rw [hw2] at h1; exact (Option.some.inj h1).symm
    refine ⟨_, rfl, wpAny_letOwnedTupleGo_zip (s := { s with heap := g, toks := tk }) z2 fun g' z3 sb => ?_⟩
    have nz : s.heap.objs.size ≠ z := Nat.ne_of_gt zl
    have hT' : g'.get? s.heap.objs.size = some { cls := .type "tuple", data := .seq #[u', v'] } := (sb.2 _ nz).trans hT
    have ok : ObjOk X.prog X.w (upd M s.heap.objs.size (.tup [u, v])) g' s.heap.objs.size (.tup [u, v]) :=
      ⟨(by show 2 ≤ sizeLine; decide), [u', v'], .cons r1 (.cons r2 .nil), _, hT', rfl, _, rfl⟩
    have J : Inv X pins σ (upd M s.heap.objs.size (.tup [u, v])) { s with heap := g', toks := tk } := by
      refine I.turnedNew (t' := tk) (ch := [z, e, f, i, j]) (fun c o hb q => ?_) fr (Nat.le_refl _) ok
      have nb : c ≠ z ∧ c ≠ e ∧ c ≠ f ∧ c ≠ i ∧ c ≠ j := by simpa using hb
      exact (sb.2 c nb.1).trans (kp c o nb.1 nb.2.2.1 nb.2.2.2.1 nb.2.2.2.2 q)
    refine ⟨.ref s.heap.objs.size, _, J, rfl, ⟨_, u, v, rfl, I.hok.fresh (Nat.le_refl _), rfl, fun p' hp' => ?_, fun q' hq' => ?_⟩, ?_, fun c hcm => ?_⟩
    · rw [injK I hp' Lp]; exact eu
    · rw [injK I hq' Lq]; exact ev
    · refine ⟨z3, (sb.2 _ D.TIz).trans (kp _ _ D.TIz D.TITO D.TIi1 D.TIi2 S2), ⟨_, _, (sb.2 _ D.TOz).trans f2⟩, ?_, ?_⟩
      · exact s4.1.to fun o q => (sb.2 _ D.i1z).trans q
      · exact s5.1.to fun o q => (sb.2 _ D.i2z).trans q
    · have lt : c < s.heap.objs.size := by
        rcases in5 hcm with rfl | rfl | rfl | rfl | rfl
        · exact zl
        · exact Heap.lt_size S2
        · exact Heap.lt_size S3
        · obtain ⟨o, q, _⟩ := S4.ob; exact Heap.lt_size q
        · obtain ⟨o, q, _⟩ := S5.ob; exact Heap.lt_size q
      rw [upd_ne (Nat.ne_of_lt lt)]
      exact (fr c hcm).1
  done := by
    intro X hP hw hK hc n pins s σ M E I fr S stop
    subst hP hw hK
    obtain ⟨S1, S2, ⟨x0, y0, S3⟩, S4, S5⟩ := S
    obtain ⟨p, q, Lp, Lq, en, n1, n2⟩ := stop
    obtain ⟨is, rp, hp, _⟩ := readK I Lp
    obtain ⟨js, rq, hq, _⟩ := readK I Lq
    have ep := rp.length
    have eq := rq.length
    have hd1 : X.A.in1.handled = none := I.ok.hd hc
    refine wpAny_pyNext_zipD2_end (zsep D) (drawK hd1 k i a D.l1i1 is.toArray) (drawK hd1 l j b D.l2i2 js.toArray) S1 S2 S3 ⟨S4, hp⟩ ⟨S5, hq⟩ (by rw [List.size_toArray]; omega) (by rw [List.size_toArray]; omega) (by rw [List.size_toArray, List.size_toArray]; omega) ?_
    intro g tk kp
    refine ⟨rfl, I.turnedL (t' := tk) (ch := [z, e, f, i, j]) (fun c o hb q => ?_) fr⟩
    have nb : c ≠ z ∧ c ≠ e ∧ c ≠ f ∧ c ≠ i ∧ c ≠ j := by simpa using hb
    exact kp c o nb.1 nb.2.2.1 nb.2.2.2.1 nb.2.2.2.2 q
  self := fun A n s Q E S h => wpAny_pyIter_zip S.1 h
theorem beginK (k : Bool) (a : Addr) (its : Array Value) : ∃ o, Begins (.ref a) o (fun h => HeK k h a its) ∧ ∀ (h : Heap) (it : Addr), h.get? it = some o → ItK k h it a 0 := by
  cases k with
  | true => exact ⟨_, begins_tuple a its, fun h it e => ⟨_, e, rfl, rfl⟩⟩
  | false => exact ⟨_, begins_list a its, fun h it e => ⟨_, e, rfl, rfl⟩⟩
def iZipM (K : PySem.W.Frag) (ta : TA) : TI := fun σ M R => ta σ M fun vs M1 => ∃ (k l : Bool) (a b : Addr) (p q : List V), vs = [.ref a, .ref b] ∧ SqK k K M1 a p ∧ SqK l K M1 b q ∧ R (ItzM k l K a b) M1
theorem pi_zipM {X : Cx} {e e2 : Expr} {ta : TA} {p pos tpos : Pos} {elts : List Expr} {kk : Nat} (hg : Gl X "zip") (hm : X.mg "zip" = none) (ha : PA X [e, e2] ta)
    (hs : starEach [e, e2] X.env = (false, eval e X.env) :: starEach [e2] X.env := by rfl) (hpl : (backTo pos (starEach [e2] X.env)).any (·.1) = false := by rfl) :
    PI X (.Tuple elts kk tpos) (.Call (.Name "zip" p) [e, e2] [] pos) (iZipM X.K ta) := by
  refine ⟨fun pins s σ M R I h => Call_ (ld_blt I hg hm PyProof.Rows.boot_zip (PyProof.Rows.callWith_type1 (thn (ha.run pos pins s σ M _ I h) fun us s1 hh => ?_) hs hpl))⟩
  obtain ⟨vs, M1, I1, r1, k, l, a, b, xs, ys, ev, Lx, Ly, q⟩ := hh
  subst ev
  obtain ⟨u1, u2, rfl, e1, e2⟩ := vals2 r1
  cases (show u1 = Value.ref a from e1)
  cases (show u2 = Value.ref b from e2)
  obtain ⟨is, rp, hp, la⟩ := readK I1 Lx
  obtain ⟨js, rq, hq, lb⟩ := readK I1 Ly
  obtain ⟨o1, B1, t1⟩ := beginK k a is.toArray
  obtain ⟨o2, B2, t2⟩ := beginK l b js.toArray
  refine zip_begins2 B1 B2 hp hq fun g z1 z2 z3 g1 g2 sz kp => wpAny_pyIter_zip z1 ?_
  have J : Inv X pins σ M1 { s1 with heap := g } := I1.kept (t' := s1.toks) kp
  refine ⟨s1.heap.objs.size + 4, [s1.heap.objs.size + 4, s1.heap.objs.size + 2, s1.heap.objs.size + 3, s1.heap.objs.size, s1.heap.objs.size + 1], _, _, M1, rfl, J, turn_zipM (PySem.W.ktu_apart s1.heap.objs.size a b la lb), ⟨z1, z2, ⟨_, _, z3⟩, t1 _ _ g1, t2 _ _ g2⟩, fun c hcm => ?_, q⟩
  have le : s1.heap.objs.size ≤ c := by
    rcases in5 hcm with rfl | rfl | rfl | rfl | rfl <;> first | exact Nat.le_add_right _ _ | exact Nat.le_refl _
  exact I1.fpOk le (I1.hok.fresh le)
/-- a loop over zip of two sequences of one length -/
theorem for_zipM {k l : Bool} {K : PySem.W.Frag} {a b : Addr} {p q : List V} {g : TG} {tb : TS} {D : Ends} {σ : L2.St} {M : Hp} (hl : p.length = q.length) (Pv : Nat → L2.St → Hp → Prop) (h0 : Pv 0 σ M) (hq : ∀ n σ M, Pv n σ M → SqK k K M a p ∧ SqK l K M b q)
    (hs : ∀ (n : Nat) (u v : V) (C : Addr) (σ : L2.St) (M : Hp), p[n]? = some u → q[n]? = some v → Pv n σ M → M C = none → g (.ref C) σ (upd M C (.tup [u, v])) fun σ2 M2 => tb { D with nx := Pv (n + 1), ct := Pv (n + 1), bk := D.nx } σ2 M2) (hd : ∀ σ M, Pv p.length σ M → D.nx σ M) :
    ∃ W : Nat → Nat → L2.St → Hp → Prop, (∃ m, W 0 m σ M) ∧ ∀ n m σ M, W n m σ M →
      ((ItzM k l K a b).stop n M ∧ D.nx σ M) ∨ ((ItzM k l K a b).go n M ∧ ∃ N : L2.St → Hp → Prop, (∀ σ' M', N σ' M' → ∃ m', m' < m ∧ W (n + 1) m' σ' M') ∧ ∀ y M', (ItzM k l K a b).yld n M y M' → g y σ M' fun σ2 M2 => tb { D with nx := N, ct := N, bk := D.nx } σ2 M2) := by
  refine ⟨fun n m σ M => m + n = p.length ∧ Pv n σ M, ⟨p.length, by simp, h0⟩, ?_⟩
  rintro n m σ M ⟨em, pv⟩
  obtain ⟨Lp, Lq⟩ := hq n σ M pv
  by_cases c : n < p.length
  · have eu : p[n]? = some p[n] := List.getElem?_eq_getElem c
    have ev : q[n]? = some (q[n]'(by omega)) := List.getElem?_eq_getElem (by omega)
    refine .inr ⟨⟨p, q, _, _, Lp, Lq, eu, ev⟩, Pv (n + 1), fun σ' M' pv' => ⟨m - 1, by omega, by omega, pv'⟩, fun y M' hy => ?_⟩
    obtain ⟨C, u, v, rfl, nC, rfl, f1, f2⟩ := hy
    exact hs n u v C σ M (f1 p Lp) (f2 q Lq) pv nC
  · have e : n = p.length := by omega
    subst e
    exact .inl ⟨⟨p, q, Lp, Lq, .inl rfl, Nat.le_refl _, by omega⟩, hd σ M pv⟩
end My
namespace My
open PySem PySem.Spec PyProof.Rows L2
/-! ### own classes of errors over any built-in one, kept by an __init__ of their own -/
/-- what the written part says of the class at C over the built-in errors of mro B -/
structure OexG (K : PySem.W.Frag) (C : Addr) (newId : String) (B : List Value) : Prop where
  cls : ∃ nm q N bs bm sn sub ab col dd k0 k1 k2 k3 k5, K.lookup C = some (excClassObj nm q C N bs bm true sn sub ab col dd k0 k1 k2 k3 k5 newId) ∧ PySem.W.excTail B bm = true
  sa : PySem.W.findIn K (.ref C) "__setattr__" = some (some (.builtin "object.__setattr__"))
  exC : PySem.W.subIn K (.ref C) (.type "BaseException") = some true
  tyC : PySem.W.typeIn K (.ref C) = some (.type "type")
  kC : PySem.W.keepIn K (.ref C) = true
/-- the mro of LookupError -/
abbrev leM : List Value := [.type "LookupError", .type "Exception", .type "BaseException", .type "object"]
section
variable {prog : Program} {w : World} {A : Around} {R : Result → Shared → Prop} {hp : Heap} {g : Array GenState} {d : Drawn} {t : Nat} {os : OsState} {B : List Value} {b0 : String}
/-- the first store into such an error: its dict is laid -/
theorem osaG {K : PySem.W.Frag} {name : Str} {tk : Tok} {v : Value} {x C : Addr} {fv : Array Value} {cd : ClassData} (SF : StoreFacts b0 B "object.__setattr__" "object")
    (X : K.In hp) (hx : hp.get? x = some { cls := .ref C, data := .fields fv }) (hcd : PySem.W.clsIn K C = some cd) (bm : List Value) (hm : cd.mro = .ref C :: bm) (hb : PySem.W.excTail B bm = true) (hh : cd.hasDict = true) (ha : PySem.W.findIn K (.ref C) name = some none)
    (hq : ∀ h' tk' dx, (∀ b o, b ≠ x → hp.get? b = some o → h'.get? b = some o) → hp.objs.size ≤ dx → dx ≠ x → h'.get? x = some { cls := .ref C, dict := some dx, data := .fields fv } →
      h'.Ns1 dx (fun y => if y = name then some v else none) → R (.ok (.ret .none)) ⟨h', g, d, tk', os⟩) :
    codeAny (model prog w) A (.call (.builtin "object.__setattr__") ⟨[.ref x, .str name tk, v], []⟩) R ⟨hp, g, d, t, os⟩ := by
  have I : PySem.W.InstAt hp x { cls := .ref C, data := .fields fv } C none := ⟨hx, rfl, rfl, trivial⟩
  have hxs : x ≠ hp.objs.size := Nat.ne_of_lt (Heap.lt_size hx)
  have hcls : PySem.W.Looks (model prog w) hp (classData C) cd := PySem.W.looks_clsIn X hcd
  have ov : PySem.W.excOver K C B = true := by
    unfold PySem.W.excOver
    rw [hcd]
    show (match cd.mro with | .ref C' :: bm => C' == C && PySem.W.excTail B bm | _ => false) = true
    rw [hm]
    show ((C == C) && PySem.W.excTail B bm) = true
    rw [hb, beq_self_eq_true]
    rfl
  have tk0 : PySem.W.takerIn K C name = some none := by
    unfold PySem.W.takerIn
    rw [ha]
    rfl
  refine PySem.W.osa_openX (r := none) SF X I ov tk0 fun bb => ?_
  obtain ⟨nm, bs, mro, ns, qn, hd, sn, sb, ab, col, del⟩ := cd
  dsimp only at hh
  subst hh
  show wpAny _ _ (Builtin.ObjectAttr.storeInOwnDict _ _ _ _ _ _) _ _ _
  unfold Builtin.ObjectAttr.storeInOwnDict Builtin.ObjectAttr.ownDictForStores
  repeat (first | with_reducible refine PySem.HandSPX.store_in_new ?_ ?_ | with_reducible refine wpAny_loadPart_at hx ?_ | with_reducible refine hcls.at ?_ | wp_step)
  · exact ⟨_, #[], _, (Heap.get?_update_ne _ _ _ _ hxs.symm).trans (Heap.get?_push_at rfl rfl), rfl, fun e he => absurd he (by simp), fun _ => rfl⟩
  · intro h' tk' hn' hs
    have hx1 : (hp.push { cls := .type "dict", data := .dict #[] }).get? x = some { cls := .ref C, data := .fields fv } := Heap.get?_push_of_some _ hx
    exact hq h' tk' hp.objs.size (fun b o hb ho => (hs.2 b (Nat.ne_of_lt (Heap.lt_size ho))).trans ((Heap.get?_update_ne _ _ _ _ hb).trans (Heap.get?_push_of_some _ ho))) (Nat.le_refl _) hxs.symm ((hs.2 x hxs).trans (Heap.get?_update_self _ hx1 rfl)) hn'
end
end My
namespace My
open PySem PySem.Spec PyProof.Rows L2
section
variable {X : Cx} {pins : List (Addr × Obj)} {σ : L2.St} {H : Hp} {s : Shared} {a C : Addr} {f : Str} {y : V} {u : Value} {A : Around} {newId b0 : String} {B : List Value}
/-- self.f = y, the first one, for errors over any base -/
theorem ostG {Q : Unit → Shared → Prop} {E : Value → Shared → Prop} (SF : StoreFacts b0 B "object.__setattr__" "object") (T : OexG X.K C newId B) (I : Inv X pins σ H s) (ea : H a = some (exo a C none)) (no : PySem.W.findIn X.K (.ref C) f = some none) (ry : RelV y u)
    (k : ∀ dx s', H dx = none → dx ≠ a → Inv X pins σ (L2.upd (L2.upd H dx (exd dx [(f, y)])) a (exo a C (some dx))) s' → Q () s') : wpAny (model X.prog X.w) A (setAttr (.ref a) f u) Q E s := by
  obtain ⟨nm, q, N, bs, bm, sn, sub, ab, col, dd, k0, k1, k2, k3, k5, hC, hb⟩ := T.cls
  have hcl : PySem.W.clsIn X.K C = some { name := nm, bases := bs, mro := .ref C :: bm, ns := N, qualname := q, hasDict := true, slotNames := sn, subclasses := sub, abstract := ab, collection := col, hasDel := false } := by
    unfold PySem.W.clsIn; rw [hC] <;> rfl
  obtain ⟨t1, ho⟩ := exo_at I.hok ea
  obtain ⟨hp, g, d, t, os⟩ := s
  refine PySem.W.set_plain I.kIn (ox := { cls := .ref C, dict := none, data := .fields #[.ref t1, .none, .none, .none, .bool false, .none] }) (od := none) ⟨ho, rfl, rfl, trivial⟩ T.sa (osaG SF I.kIn ho hcl bm rfl hb rfl no fun h' tk' dx kp dn dne hx hn => ?_)
  have hd : H dx = none := I.hok.fresh dn
  have nd : ∀ {b : Addr} {o : Obj}, hp.get? b = some o → b ≠ dx := fun {b o} z => Nat.ne_of_lt (Nat.lt_of_lt_of_le (Heap.lt_size z) dn)
  have na : ∀ {b : Addr}, H b = none → b ≠ a := fun {b} n z => by rw [z, ea] at n; cases n
  have U : Un X.fs [] H (L2.upd (L2.upd H dx (exd dx [(f, y)])) a (exo a C (some dx))) hp h' := by
    refine ⟨fun b o z n _ _ => kp b o (na n) z, fun b o z n _ _ => ⟨o.slots, kp b o (na n) z⟩, fun b o z n _ => ?_, fun b o z _ => ?_, fun b xs z => ?_, fun b o v z => ?_, fun b ps z => ⟨#[], ?_⟩⟩
    · rw [upd_ne (na n), upd_ne (nd z)]; exact n
    · by_cases hba : b = a
      · exact ⟨_, by rw [hba]; exact hx⟩
      · exact ⟨o, kp b o hba z⟩
    · rw [upd_ne (at_ne ea z exo_tup), upd_ne (ne_of_none z hd)]; exact z
    · rw [upd_ne (at_ne ea z exo_frz), upd_ne (ne_of_none z hd)]; exact z
    · rw [upd_ne (at_ne ea z exo_tbl), upd_ne (ne_of_none z hd), z]; simp
  refine k dx _ hd dne (I.un (t' := tk') U fun b o z => ?_)
  by_cases hba : b = a
  · subst hba
    rw [upd_same] at z
    cases z
    exact exo_ok hx
  rw [upd_ne hba] at z
  by_cases hbd : b = dx
  · subst hbd
    rw [upd_same] at z
    cases z
    exact exd_ok hn (relO_put (fs := []) ry fun g => True.intro)
  rw [upd_ne hbd] at z
  refine (I.hok b o z).stay (fun c v hc z2 => kp c v ?_ z2) (fun c hc => ?_) (fun c xs hc => ?_)
  · rcases hc with hc | hc
    · rw [hc]; exact hba
    · exact at_ne ea hc exo_own
  · rw [upd_ne (at_ne ea hc exo_own), upd_ne (ne_of_none hc hd)]; exact hc
  · rw [upd_ne (at_ne ea hc exo_tup), upd_ne (ne_of_none hc hd)]; exact hc
end
/-- self.f = e, the one store of such an __init__ -/
def tOstG (K : PySem.W.Frag) (newId : String) (B : List Value) (f : Str) (to te : TE) : TS := fun D σ H => te σ H fun y H1 => to σ H1 fun x H2 => ∃ a C : Addr, x = .ref a ∧ OexG K C newId B ∧ PySem.W.findIn K (.ref C) f = some none ∧
  H2 a = some (exo a C none) ∧ ∀ dx, H2 dx = none → dx ≠ a → D.nx σ (L2.upd (L2.upd H2 dx (exd dx [(f, y)])) a (exo a C (some dx)))
section
variable {X : Cx} {o e : Expr} {es : List Expr} {to te : TE} {ta : TA} {f : Str} {p p' pos : Pos} {newId initId b0 : String} {B : List Value}
theorem ps_ostG (SF : StoreFacts b0 B "object.__setattr__" "object") (ho : PE X o to) (he : PE X e te) (hs : swapsWith e (some (.Attribute o f p')) pos.line X.env = pure false := by rfl) : PS X (.Assign [.Attribute o f p'] e pos) (tOstG X.K newId B f to te) := by
  refine ⟨fun pins s σ H D I h => plainObj_wpAny_Assign_Attribute (thn (he.run pins s σ H _ I h) fun v s1 ⟨y, H1, I1, r1, q1⟩ => thn (ho.run pins s1 σ H1 _ I1 q1) fun u s2 ⟨x, H2, I2, r2, a, C, ex, T, no, ea, q⟩ => ?_) hs⟩
  subst ex
  obtain rfl : u = Value.ref a := r2
  exact ostG SF T I2 ea no r1 fun dx s' n ne J => ⟨σ, _, J, q dx n ne⟩
/-- C(e, ..), an error over any base being made -/
theorem pmk_G {CX : CXT} {x : Str} {C fI : Addr} {k : Nat} {fd : FuncData} {ps : List Str} {sp : Sp} {ds : List Value} {dvs : List V} (FB : ExcBaseFacts b0 newId initId B) (T : OexG X.K C newId B) (iC : PySem.W.findIn X.K (.ref C) "__init__" = some (some (.ref fI))) (tI : PySem.W.typeIn X.K (.ref fI) = some (.type "function"))
    (F1 : FnOk X.prog X.w X.K X.mg X.base CX k fI fd ps sp) (hr : Room (k + 1) X.A) (hb : Binds X.K fd ps ds) (hd : Vals dvs ds) (hx : Passes CX X (fun _ _ _ => False)) (hg : Gl X x) (hm : X.mg x = some (.ref C)) (ha : PA X (e :: es) ta)
    (hdb : (x == ("__debug__" : Str)) = false := by decide) (he : starEach (e :: es) X.env = (false, eval e X.env) :: starEach es X.env := by rfl) (hpl : (backTo pos (starEach es X.env)).any (·.1) = false := by rfl) : PMk X (.Call (.Name x p) (e :: es) [] pos) (tMkO C sp dvs ta) := by
  intro pins s σ H Q I h
  obtain ⟨nm, q, N, bs, bm, sn, sub, ab, col, dd, k0, k1, k2, k3, k5, hC, hbm⟩ := T.cls
  refine wpAny_Call_Name_kw (ld_glob I hg hm ?_ hdb)
  refine PySem.W.callWith_K (h₀ := X.base) I.ok.mod.kin T.kC (thn (ha.run pos pins s σ H _ I h) fun us s1 ⟨vs, H1, I1, r1, hz, q1⟩ => ⟨I1.kIn, (show wpAny _ _ (call (.ref C) us) _ _ _ from ?_)⟩) he hpl
  obtain ⟨hp, g, dr, tk, os⟩ := s1
  have hsz : hp.objs.size ≤ hp.objs.size + 1 := Nat.le_succ _
  have hq := q1 (hp.objs.size + 1) (I1.hok.fresh hsz)
  have kk : ∀ b o, hp.get? b = some o → ((hp.push (PySem.W.kdv_tup us)).push (PySem.HandSPX.excO C hp.objs.size)).get? b = some o := fun b o z => Heap.get?_push_of_some _ (Heap.get?_push_of_some _ z)
  have hget : ((hp.push (PySem.W.kdv_tup us)).push (PySem.HandSPX.excO C hp.objs.size)).get? (hp.objs.size + 1) = some (PySem.HandSPX.excO C hp.objs.size) := by heap_get
  have I2 := I1.laid (t' := tk) (a := hp.objs.size + 1) (o := exo (hp.objs.size + 1) C none) (h' := (hp.push (PySem.W.kdv_tup us)).push (PySem.HandSPX.excO C hp.objs.size)) kk hsz (exo_ok hget)
  have r2 : Vals (V.ref (hp.objs.size + 1) :: (vs ++ dvs)) (Value.ref (hp.objs.size + 1) :: (us ++ ds)) := .cons rfl (r1.append hd)
  have hl : (Value.ref (hp.objs.size + 1) :: us ++ ds).length = ps.length := by
    have z := r2.length; rw [F1.len _ _ _ _ hq] at z; exact z.symm
  have hus : us.length ≤ sizeLine := by rw [← Paired.length r1, sizeLine_eq]; omega
  refine wpAny_call (PySem.HandSPX.call_own FB (fun Y => PySem.W.excTail_contains Y bm hbm) (I1.kIn _ _ hC) (PySem.W.looks_findIn I1.kIn iC) (fun self => PySem.W.bind_fn I1.kIn self tI) hus
    (codeAny_mono (F1.run _ X.stack _ _ ⟨Value.ref (hp.objs.size + 1) :: us, []⟩ (Value.ref (hp.objs.size + 1) :: (us ++ ds)) _ _ (fun _ _ _ => False) (hr.make C us []) (I2.env0.make C us []) (hb _ (Value.ref (hp.objs.size + 1) :: us) I2.kIn hl) r2 hq) fun r s' hq' => ?_))
  rcases r with er | fl
  · exact hx pins σ _ _ er s' I2 hq'
  cases fl with
  | ret u =>
    obtain ⟨v, H2, os2, bare2, un2, hok2, rv, ev, d, fs, ea, ed, hd1, q2⟩ := hq'
    subst ev
    obtain ⟨h2, g2, d2, t2, os'⟩ := s'
    exact ⟨rv, mk_end (raises_own T.exC T.tyC) I1 hsz kk un2 hok2 os2 bare2 ea ed hd1 q2⟩
  | _ => exact False.elim hq'
end
/-! ### a class of errors over LookupError with one field, kept by its own __init__ -/
structure OwnL (K : PySem.W.Frag) (mg : Str → Option Value) (x q f : Str) (st : Stmt) where
  C : Addr
  fI : Addr
  fd : FuncData
  oex : OexG K C "LookupError.__new__" leM
  xf : XfC K C
  iC : PySem.W.findIn K (.ref C) "__init__" = some (some (.ref fI))
  tI : PySem.W.typeIn K (.ref fI) = some (.type "function")
  noF : PySem.W.findIn K (.ref C) f = some none
  F : Fun K "__init__" q (initOf st) fI fd
  b : Binds K fd ["self", f] []
  m : mg x = some (.ref C)
  te : PySem.W.exmOne K (.ref C) (.ref C) = some true
end My
namespace My
open PySem PySem.Spec PyProof.Rows L2
/-! ### a def that is called where nothing is being shown: its body may show values -/
structure FnG (P : Program) (w : World) (K : PySem.W.Frag) (mg : Str → Option Value) (base : Heap) (k : Nat) (f : Addr) (fd : FuncData) (ps : List Str) (sp : Sp) : Prop where
  len : ∀ vs H Q E, sp vs H Q E → vs.length = ps.length
  run : ∀ (A : Around), A.guards = some [] → Room k A → ∀ (outer : List Env) (s : Shared) (H : Hp), Env0 P w K mg base A outer s H → ∀ (args : Args) (us : List Value), BindsTo s fd args (ps.zip us) →
    ∀ (vs : List V), Vals vs us → ∀ (Q : VK) (E : XK), sp vs H Q E → codeAny (model P w) A (.call (.ref f) args) (CR CX0 outer P w H s Q E) s
section
variable {P : Program} {w : World} {K : PySem.W.Frag} {mg : Str → Option Value} {base : Heap}
theorem FnG.of {x qual : Str} {st : Stmt} {f : Addr} {fd : FuncData} {N ps : List Str} {k : Nat} {sp : Sp} (F : Fun K x qual st f fd) (S : FnScope N ps (defScope st)) (len : ∀ vs H Q E, sp vs H Q E → vs.length = ps.length)
    (body : ∀ (cdv : Value) (A : Around) (outer : List Env) (s : Shared) (H : Hp) (vs : List V) (Q : VK) (E : XK), A.guards = some [] → Room k (A.deeper (envOfC qual (defScope st) s.heap.objs.size f cdv)) → sp vs H Q E →
      ∃ t, PSs (cxOf CX0 P w K mg base N qual (defScope st) f cdv A outer s H E).nox (defBody st) t ∧ t { nx := fun _ H' => Q .non H', rt := Q } (start N vs) H) :
    FnG P w K mg base (k + 1) f fd ps sp := by
  obtain ⟨oc, od, kV, doc, pm, an, cdv, ct, osl, rfl, lk, hcd⟩ := F.ex
  refine ⟨len, fun A hg hr outer s H e0 args us hb vs r Q E hsp => ?_⟩
  have KX : K.In s.heap := e0.mod.kin.keeps fun b o q => (e0.bs b o q).1
  have nl : s.heap.NoLimit := e0.mod.nolimit.keeps fun b o q => (e0.bs b o q).1
  have kinds : ∀ y ∈ ps.zip us, (defScope st).names.lookup y.1 = some .local ∨ ((defScope st).names.lookup y.1 = some .cell ∧ ((cellsFrom (s.heap.objs.size + 1) (defScope st).names []).lookup y.1).isSome = true) := by
    rintro ⟨n, v⟩ hy
    have q := S.par n (List.of_mem_zip hy).1
    exact q.imp id fun q => ⟨q, PySem.W.cellsFrom_some _ _ _ (.inl q)⟩
  refine codeAny_call_function hr.depth (KX _ _ lk) rfl S.co S.gen rfl (PySem.W.codeRec_of KX hcd) (hb _ _ _ _ (wpAny_newFunctionEnv_cells S.kind kinds fun env he s1 x => ?_))
  subst he
  refine ⟨nl.keeps x.toInCall.keep, codeAny_func ?_⟩
  obtain ⟨t, ht, hq⟩ := body cdv A outer s H vs Q E hg (hr.deeper _) hsp
  have I : Inv (cxOf CX0 P w K mg base N qual (defScope st) f cdv A outer s H E) [] (start N vs) H s1 := inv_start S hr.hd e0 (len _ _ _ _ hsp) r x
  refine wpAny_mono (ht.nox.run [] s1 (start N vs) H _ I hq) (fun fl s' hs => ?_) (fun e s' hs => hs)
  have last : ∀ {σ' : L2.St} {H' : Hp} {v : V} {u : Value}, Inv (cxOf CX0 P w K mg base N qual (defScope st) f cdv A outer s H E) [] σ' H' s' → RelV v u → Q v H' → CE outer P w H s Q u s' := fun J rv q => ⟨_, _, J.os, J.bare, J.base, J.hok, rv, q⟩
  rcases fl with _ | _ | _ | u
  all_goals first
    | (obtain ⟨v, σ', H', J, rv, q⟩ := hs; exact last J rv q)
    | (obtain ⟨σ', H', J, q⟩ := hs; exact last (v := V.non) (u := Value.none) J rfl q)
    | (obtain ⟨_, _, _, q⟩ := hs; exact False.elim q)
/-- the law's def, called by the one who asks for the proof -/
theorem law_runG {k : Nat} {fa a : Addr} {fd : FuncData} {x : Str} {sp : Sp} {mb : Str → Option Value} {s₁ : Shared} {vs : List Value} {ns : List Int}
    (KX : K.In s₁.heap) (hns : s₁.heap.Ns mainGlobals mg) (hb : s₁.heap.Ns builtinsNs mb) (hbb : ∀ x : Str, x ≠ "__name__" → mb x = bootBuiltins x) (nl : s₁.heap.NoLimit) (hg : s₁.gens = #[])
    (ha : s₁.heap.get? a = some { cls := .type "list", data := .seq vs.toArray }) (hi : IntsAre vs ns) (hl : ns.length ≤ sizeLine) (hr : Room k callerA)
    (F : ∀ base : Heap, K.In base → base.Ns mainGlobals mg → FnG P w K mg base k fa fd [x] sp) (bind : ∀ (s : Shared) (u : Value), BindsTo s fd ⟨[u], []⟩ [(x, u)])
    (hsp : ∀ H : Hp, Only H → SqL K H a (ns.map V.int) → sp [.ref a] H (fun v _ => v = .bl true) fun _ _ _ => False) :
    codeAny (model P w) callerA (.call (.ref fa) ⟨[.ref a], []⟩) (fun r s' => r = .ok (.ret (.bool true)) ∧ OldK s₁.heap s'.heap ∧ s'.os = s₁.os ∧ AllBare s'.gens) s₁ := by
  have rv := vals_ints hi
  have lv := hi.length
  have core : ∀ H : Hp, Only H ∧ SqL K H a (ns.map V.int) ∧ HOk P w H s₁.heap ∧ (∀ b, H b ≠ none → b = a) ∧ (H a ≠ none → K.lookup a = none) →
      codeAny (model P w) callerA (.call (.ref fa) ⟨[.ref a], []⟩) (fun r s' => r = .ok (.ret (.bool true)) ∧ OldK s₁.heap s'.heap ∧ s'.os = s₁.os ∧ AllBare s'.gens) s₁ := by
    rintro H ⟨hO, hS, hok, hA, hK⟩
    have no : ∀ {b : Addr}, b ≠ a → H b = none := fun {b} n => by
      cases q : H b with
      | none => rfl
      | some u => exact absurd (hA b fun z => by rw [q] at z; cases z) n
    have dicts : ∀ {b : Addr} {o : Obj} {es : Array DictEntry} {ep : Nat}, s₁.heap.get? b = some o → o.data = .dict es ep → (hidT s₁.heap H).get? b = some o := fun {b o es ep} e d => hidT_get e (no fun z => by
      rw [z, ha] at e
      have e' := Option.some.inj e
      rw [← e'] at d
      exact Data.noConfusion d)
    have nsK : ∀ {b : Addr} {m : Str → Option Value}, s₁.heap.Ns b m → (hidT s₁.heap H).Ns b m := fun z => by
      obtain ⟨o, es, ep, e, d, r⟩ := z
      exact ⟨o, es, ep, dicts e d, d, r⟩
    have inK : K.In (hidT s₁.heap H) := fun b o e => by
      refine hidT_get (KX b o e) ?_
      by_cases hb : b = a
      · cases q : H b with
        | none => rfl
        | some u =>
          have z := hK (by rw [← hb, q]; exact fun z => nomatch z)
          rw [hb, z] at e
          cases e
      · exact no hb
    obtain ⟨mc, c1, c2⟩ := nl
    have e0 : Env0 P w K mg (hidT s₁.heap H) callerA [] s₁ H :=
      { frames := rfl, mod := ⟨inK, nsK hns, ⟨mb, nsK hb, hbb⟩, ⟨mc, nsK c1, c2⟩⟩, bs := fun b o e => of_hidT e, bsz := Nat.le_of_eq (hidT_size _ _), funs := trivial, frf := fun b z => absurd z List.not_mem_nil, hok := hok, bare := .of_eq hg }
    refine codeAny_mono ((F _ inK (nsK hns)).run callerA rfl hr [] s₁ H e0 ⟨[.ref a], []⟩ [.ref a] (bind s₁ (.ref a)) [.ref a] (.cons rfl .nil) _ _ (hsp H hO hS)) fun r s' h => ?_
    rcases r with e | fl
    · exact False.elim h
    rcases fl with _ | _ | _ | u
    all_goals first
      | exact False.elim h
      | skip
    obtain ⟨v, H', os, bare, un, hok', r', q⟩ := h
    have q' : v = .bl true := q
    rw [q'] at r'
    have r2 : u = Value.bool true := r'
    refine ⟨by rw [r2], OldK.of_keep fun b o e => ?_, os, bare⟩
    rcases hO b with z | ⟨ob, xs, z⟩
    · exact un.keep b o e z List.not_mem_nil List.not_mem_nil
    · have z1 := (hok b _ z).1
      have z2 := (hok' b _ (un.frzs b ob _ z)).1
      rw [e] at z1
      cases z1
      exact z2
  cases hk : K.lookup a with
  | some o =>
    have e := KX a o hk
    rw [ha] at e
    cases e
    exact core (fun _ => none) ⟨fun _ => .inl rfl, .inr ⟨_, vs.toArray, _, hk, rfl, rfl, rfl, by rw [List.size_toArray, lv]; exact hl, by simpa using rv⟩, (fun b u z => nomatch z), fun b z => absurd rfl z, fun z => absurd rfl z⟩
  | none =>
    have at_ : ∀ {b : Addr} {u : HO}, (if b = a then some (HO.frz { cls := .type "list", data := .seq vs.toArray } (.lst (ns.map V.int))) else none) = some u → b = a ∧ u = HO.frz { cls := .type "list", data := .seq vs.toArray } (.lst (ns.map V.int)) := fun {b u} z => by
      by_cases h : b = a
      · rw [if_pos h] at z; exact ⟨h, (Option.some.inj z).symm⟩
      · rw [if_neg h] at z; cases z
    refine core (fun b => if b = a then some (.frz { cls := .type "list", data := .seq vs.toArray } (.lst (ns.map V.int))) else none) ⟨fun b => ?_, .inl (.inr ⟨_, if_pos rfl⟩), fun b u z => ?_, fun b z => ?_, fun _ => hk⟩
    · by_cases h : b = a
      · exact .inr ⟨_, _, if_pos h⟩
      · exact .inl (if_neg h)
    · obtain ⟨rfl, rfl⟩ := at_ z
      exact ⟨ha, by rw [List.length_map]; exact hl, vs, _, rv, ha⟩
    · by_cases h : b = a
      · exact h
      · exact absurd (if_neg h) z
end
/-- the walk's goal from the law's promise, the values being shown within -/
theorem walk_ofG {l : PySem.W.OpenLaw} {n k : Nat} {q : Program} {loose : List Str} {XP : (Str → Option Value) → Heap → Prop} {YP : World → Heap → Prop} {d : DefRec} {K : Params → PySem.W.Frag} {sp : World → Sp} {x : Str}
    (hn : l.most = some n) (hn2 : n ≤ sizeLine) (hdf : d.params.defaults = []) (hr : Room k callerA) (hY : ∀ (w : World) (h : Heap), YP w h → (K w.params).In h)
    (F : ∀ (w : World) (mg : Str → Option Value) (fa : Addr) (h : Heap), (K w.params).In h → h.Ns mainGlobals mg → mg d.name = some (.ref fa) → ∃ fd : FuncData, (∀ (s : Shared) (u : Value), BindsTo s fd ⟨[u], []⟩ [(x, u)]) ∧
      ∀ base : Heap, (K w.params).In base → base.Ns mainGlobals mg → FnG l.prog w (K w.params) mg base k fa fd [x] (sp w))
    (hsp : ∀ (w : World) (H : Hp) (a : Addr) (ns : List Int), ns.length ≤ n → Only H → SqL (K w.params) H a (ns.map V.int) → sp w [.ref a] H (fun v _ => v = .bl true) fun _ _ _ => False) :
    PySem.W.WalkO q loose XP YP l.row.toRowW d [] (fun f vs => PySem.call f vs) :=
  Att.attach_call hn hdf fun w s₀ s₁ mg mb fa o pm cd doc a vs ns G Y _ _ _ hmg ho hi hlen hg => by
    obtain ⟨fd, b, hF⟩ := F w mg fa _ (hY w _ Y) G.T.g hmg
    exact law_runG (hY w _ Y) G.T.g G.T.b G.T.builtins G.T.nolimit hg ho hi (Nat.le_trans hlen hn2) hr hF b fun H hO hS => hsp w H a ns hlen hO hS
end My
namespace My
open PySem PySem.Spec PyProof.Rows L2
/-! ### values at any depth, dicts of one number among them -/
def encK : Key → PyData
  | .inl i => .int i
  | .inr x => .str x
inductive DzE : List (Key × V) → List (PyData × PyData) → Prop
  | none : DzE [] []
  | one (k : Key) (i : Int) : DzE [(k, .int i)] [(encK k, .int i)]
mutual
inductive Dz (H : Hp) : V → PyData → Prop
  | non : Dz H .non .none
  | bl (b : Bool) : Dz H (.bl b) (.bool b)
  | int (i : Int) : Dz H (.int i) (.int i)
  | str (x : Str) : Dz H (.str x) (.str x)
  | lst {a : Addr} {xs : List V} {ds : List PyData} : H a = some (.lst xs) → sysModules < a → DzAll H xs ds → Dz H (.ref a) (.list ds)
  | tup {a : Addr} {xs : List V} {ds : List PyData} : H a = some (.tup xs) → DzAll H xs ds → Dz H (.ref a) (.tuple ds)
  | dct {a : Addr} {kvs : List (Key × V)} {es : List (PyData × PyData)} : H a = some (.dK kvs) → DzE kvs es → Dz H (.ref a) (.dict es)
inductive DzAll (H : Hp) : List V → List PyData → Prop
  | nil : DzAll H [] []
  | cons {v : V} {vs : List V} {d : PyData} {ds : List PyData} : Dz H v d → DzAll H vs ds → DzAll H (v :: vs) (d :: ds)
end
mutual
theorem Dz.same {H H' : Hp} (e : Same H H') : ∀ {v : V} {d : PyData}, Dz H v d → Dz H' v d
  | _, _, .non => .non
  | _, _, .bl b => .bl b
  | _, _, .int i => .int i
  | _, _, .str x => .str x
  | _, _, .lst h n hs => .lst (e _ _ h) n (DzAll.same e hs)
  | _, _, .tup h hs => .tup (e _ _ h) (DzAll.same e hs)
  | _, _, .dct h x => .dct (e _ _ h) x
theorem DzAll.same {H H' : Hp} (e : Same H H') : ∀ {vs : List V} {ds : List PyData}, DzAll H vs ds → DzAll H' vs ds
  | _, _, .nil => .nil
  | _, _, .cons h hs => .cons (Dz.same e h) (DzAll.same e hs)
end
theorem DzAll.length {H : Hp} : ∀ {vs : List V} {ds : List PyData}, DzAll H vs ds → vs.length = ds.length
  | _, _, .nil => rfl
  | _, _, .cons _ h => congrArg (· + 1) h.length
theorem DzAll.get {H : Hp} : ∀ {vs : List V} {ds : List PyData} {i : Nat} {d : PyData}, DzAll H vs ds → ds[i]? = some d → ∃ v, vs[i]? = some v ∧ Dz H v d
  | _, _, 0, _, .cons h _, e => by
    cases e
    exact ⟨_, rfl, h⟩
  | _, _, i + 1, _, .cons _ hs, e => hs.get (i := i) e
theorem encK_reads {P : Program} {w : World} {h : Heap} (k : Key) (v : Value) (e : (mixKind P w).is k v = true) : Reads h v (encK k) [] := by
  rcases keyIs_shape e with ⟨i, t, rfl, rfl⟩ | ⟨x, t, rfl, rfl⟩
  · exact .int i t
  · exact .str x t
section
variable {X : Cx} {pins : List (Addr × Obj)} {σ : L2.St} {H : Hp} {s : Shared}
theorem dze_reads (I : Inv X pins σ H s) {a : Addr} {kvs : List (Key × V)} {es : List (PyData × PyData)} (e : H a = some (.dK kvs)) (x : DzE kvs es) : ∃ as, Reads s.heap (.ref a) (.dict es) as ∧ sysModules ∉ as := by
  obtain ⟨_, ns, vs, kv, D⟩ := I.hok a _ e
  have na : sysModules ≠ a := fun z => by
    rw [← z] at ns
    exact absurd ns (by simp)
  cases x with
  | none =>
    cases kv
    exact ⟨[a], PyProof.V.reads_dictOf (enc := encK) encK_reads D .nil, by simp; exact na⟩
  | one k i =>
    cases kv with
    | cons h1 h2 =>
      cases h2
      rename_i q
      obtain ⟨k0, u0⟩ := q
      obtain ⟨ek, rv⟩ := h1
      subst ek
      obtain ⟨t, eu⟩ := (show ∃ t, u0 = Value.int _ t from rv)
      subst eu
      have r := PyProof.V.reads_dictOf (enc := encK) encK_reads D (.cons (.int _ t) .nil)
      exact ⟨_, r, by simp; exact na⟩
mutual
theorem Dz.reads (I : Inv X pins σ H s) : ∀ (d : PyData) (v : V) (u : Value), Dz H v d → RelV v u → ∃ as, Reads s.heap u d as ∧ sysModules ∉ as
  | .none, _, _, h, r => by
    cases h
    cases r
    exact ⟨[], .none, List.not_mem_nil⟩
  | .bool b, _, _, h, r => by
    cases h
    cases r
    exact ⟨[], .bool b, List.not_mem_nil⟩
  | .int i, _, _, h, r => by
    cases h
    obtain ⟨t, rfl⟩ := r
    exact ⟨[], .int i t, List.not_mem_nil⟩
  | .str x, _, _, h, r => by
    cases h
    obtain ⟨t, rfl⟩ := r
    exact ⟨[], .str x t, List.not_mem_nil⟩
  | .list ds, _, _, h, r => by
    cases h with
    | lst e big ha =>
      cases r
      obtain ⟨its, rv, ⟨o, n, ho, hc, _, hd⟩, _⟩ := I.list (SqL.of e)
      obtain ⟨as, hr, hn⟩ := Dz.readsAll I ds _ its ha rv
      refine ⟨_, .list ho hc hd hr, fun z => ?_⟩
      rcases List.mem_cons.mp z with z | z
      · exact absurd big (by rw [← z]; exact Nat.lt_irrefl _)
      · exact hn z
  | .tuple ds, _, _, h, r => by
    cases h with
    | tup e ha =>
      cases r
      obtain ⟨its, rv, ⟨o, ho, hc, n, hd⟩, _⟩ := I.tuple (SqT.of e)
      obtain ⟨as, hr, hn⟩ := Dz.readsAll I ds _ its ha rv
      exact ⟨_, .tuple ho hc hd hr, hn⟩
  | .dict es, _, _, h, r => by
    cases h with
    | dct e x =>
      cases r
      exact dze_reads I e x
theorem Dz.readsAll (I : Inv X pins σ H s) : ∀ (ds : List PyData) (vs : List V) (us : List Value), DzAll H vs ds → Vals vs us → ∃ as, ReadsAll s.heap us ds as ∧ sysModules ∉ as
  | [], _, _, h, r => by
    cases h
    cases r
    exact ⟨[], .nil, List.not_mem_nil⟩
  | d :: ds, _, _, h, r => by
    cases h with
    | cons h1 h2 =>
      cases r with
      | cons r1 r2 =>
        obtain ⟨as, a1, a2⟩ := Dz.reads I d _ _ h1 r1
        obtain ⟨bs, b1, b2⟩ := Dz.readsAll I ds _ _ h2 r2
        exact ⟨_, .cons a1 b1, fun z => (List.mem_append.mp z).elim a2 b2⟩
end
def rReprZ : List V → Hp → VK → Prop := fun xs H Q => ∃ (v : V) (d : PyData), xs = [v] ∧ Dz H v d ∧ d.showable = true ∧ d.depth ≤ 60 ∧ d.shown.length ≤ sizeLine ∧ Q (.str d.shown) H
theorem call_repr_Z (hg : X.A.guards = some []) (hu : X.A.units + 64 < cLine) : CallR X (.builtin "repr") rReprZ := by
  intro pins s σ H xs us Q I r h
  obtain ⟨v, d, rfl, dq, sh, dd, sz, q⟩ := h
  obtain ⟨u, rfl, r1⟩ := vals1 r
  have deep : ∀ a, u = .ref a → wpAny (model X.prog X.w) X.A (call (.builtin "repr") [u]) (EP X pins σ Q) X.xe s := fun a e => by
    obtain ⟨as, hr, hn⟩ := Dz.reads I d v u dq r1
    rw [e] at hr ⊢
    exact repr_of_reads' hr sh (fun _ => hn) hg (by omega) (fun _ _ e => e) (fun h' u tk hk => ⟨.str d.shown, H, I.kept hk, ⟨u, rfl⟩, q⟩) sz
  cases dq with
  | non =>
    cases r1
    exact PySem.P.repr_of_none ⟨.str _, H, I.tok _, ⟨_, rfl⟩, q⟩
  | bl b =>
    cases r1
    exact PySem.P.repr_of_bool ⟨.str _, H, I.tok _, ⟨_, rfl⟩, q⟩
  | int i =>
    obtain ⟨t, rfl⟩ := r1
    exact PySem.P.repr_of_int (of_decide_eq_true sh) ⟨.str _, H, I.tok _, ⟨_, rfl⟩, q⟩
  | str x =>
    obtain ⟨t, rfl⟩ := r1
    exact PySem.P.repr_of_str ⟨.str _, H, I.tok _, ⟨_, rfl⟩, q⟩ sz
  | lst e n hs => exact deep _ r1
  | tup e hs => exact deep _ r1
  | dct e x => exact deep _ r1
end
end My
namespace My
open PySem PySem.Spec PyProof.Rows L2
/-! ### errors held as values -/
/-- an error of the class at C stands at a -/
def ErrA (H : Hp) (a C : Addr) : Prop := H a = some (exo a C none) ∨ ∃ (dx : Addr) (fs : List (Str × V)), H a = some (exo a C (some dx)) ∧ H dx = some (exd dx fs)
/-- an error of the class at C whose one field f is v stands at a -/
def ErrV (H : Hp) (a C : Addr) (f : Str) (v : V) : Prop := ∃ dx : Addr, H a = some (exo a C (some dx)) ∧ H dx = some (exd dx [(f, v)])
theorem ErrV.a {H : Hp} {a C : Addr} {f : Str} {v : V} (h : ErrV H a C f v) : ErrA H a C := .inr ⟨_, _, h.choose_spec.1, h.choose_spec.2⟩
theorem ErrV.same {H H' : Hp} {a C : Addr} {f : Str} {v : V} (e : Same H H') (h : ErrV H a C f v) : ErrV H' a C f v := by
  obtain ⟨dx, h1, h2⟩ := h
  exact ⟨dx, e _ _ h1, e _ _ h2⟩
theorem ErrA.same {H H' : Hp} {a C : Addr} (e : Same H H') (h : ErrA H a C) : ErrA H' a C := by
  rcases h with h | ⟨dx, fs, h1, h2⟩
  · exact .inl (e _ _ h)
  · exact .inr ⟨dx, fs, e _ _ h1, e _ _ h2⟩
/-- a class of errors without an own __init__ -/
structure OwnP (K : PySem.W.Frag) (mg : Str → Option Value) (x : Str) where
  C : Addr
  ex : PySem.W.excIn K C PySem.HandSPX.veTail "ValueError.__new__" = true
  kC : PySem.W.keepIn K (.ref C) = true
  m : mg x = some (.ref C)
/-- what isinstance asks of an error's class -/
structure ExK (K : PySem.W.Frag) (C : Addr) : Prop where
  cl : (PySem.W.clsIn K C).isSome = true
  hg : PySem.W.findIn K (.ref C) "__getattribute__" = some (some (.builtin "BaseException.__getattribute__"))
  hk : PySem.W.findIn K (.ref C) "__getattr__" = some none
  hs : PySem.W.subIn K (.ref C) (.type "BaseException") = some true
  ha : PySem.W.findIn K (.ref C) "__class__" = some (some (.builtin "object.__class__"))
  hn : PySem.W.specialIn K (.builtin "object.__class__") "__get__" = some (some (.builtin "getset_descriptor.__get__"))
  ht : PySem.W.takesIn K (.builtin "object.__class__") = some true
  hm : PySem.W.mroIn K C (.type "object") = some true
def exkB (K : PySem.W.Frag) (C : Addr) : Bool := (PySem.W.clsIn K C).isSome && (decide (PySem.W.findIn K (.ref C) "__getattribute__" = some (some (.builtin "BaseException.__getattribute__"))) && (decide (PySem.W.findIn K (.ref C) "__getattr__" = some none) && (decide (PySem.W.subIn K (.ref C) (.type "BaseException") = some true) &&
  (decide (PySem.W.findIn K (.ref C) "__class__" = some (some (.builtin "object.__class__"))) && (decide (PySem.W.specialIn K (.builtin "object.__class__") "__get__" = some (some (.builtin "getset_descriptor.__get__"))) && (decide (PySem.W.takesIn K (.builtin "object.__class__") = some true) && decide (PySem.W.mroIn K C (.type "object") = some true)))))))
theorem exkB_ok {K : PySem.W.Frag} {C : Addr} (h : exkB K C = true) : ExK K C := by
  unfold exkB at h
  simp only [Bool.and_eq_true, decide_eq_true_iff] at h
  obtain ⟨h1, h2, h3, h4, h5, h6, h7, h8⟩ := h
  exact ⟨h1, h2, h3, h4, h5, h6, h7, h8⟩
/-- the answers of isinstance for classes cs and asked ones us, row by row -/
def kitT (K : PySem.W.Frag) (us : List Value) : List Addr → List (List Bool) → Bool
  | [], [] => true
  | C :: cs, r :: rs => exkB K C && (decide (us.map (PySem.W.kitOne K (.ref C)) = r.map some) && kitT K us cs rs)
  | _, _ => false
theorem kitT_ok {K : PySem.W.Frag} {us : List Value} : ∀ {cs : List Addr} {rs : List (List Bool)}, kitT K us cs rs = true → ∀ (i : Nat) (C : Addr), cs[i]? = some C → ∃ r, rs[i]? = some r ∧ ExK K C ∧ us.map (PySem.W.kitOne K (.ref C)) = r.map some
  | [], _, _, i, C, e => nomatch e
  | _ :: _, [], h, _, _, _ => nomatch h
  | D :: cs, r :: rs, h, i, C, e => by
    have h : (exkB K D && (decide (us.map (PySem.W.kitOne K (.ref D)) = r.map some) && kitT K us cs rs)) = true := h
    simp only [Bool.and_eq_true, decide_eq_true_iff] at h
    obtain ⟨h1, h2, h3⟩ := h
    cases i with
    | zero =>
      cases e
      exact ⟨r, rfl, exkB_ok h1, h2⟩
    | succ i => exact kitT_ok h3 i C e
section
variable {X : Cx} {pins : List (Addr × Obj)} {σ : L2.St} {H : Hp} {s : Shared} {a C : Addr}
theorem err_at (I : Inv X pins σ H s) (h : ErrA H a C) : ∃ ox od, PySem.W.InstAt s.heap a ox C od := by
  rcases h with h | ⟨dx, fs, h1, h2⟩
  · obtain ⟨t1, e⟩ := exo_at I.hok h
    exact ⟨_, none, e, rfl, rfl, True.intro⟩
  · obtain ⟨t1, e⟩ := exo_at I.hok h1
    obtain ⟨mA, hn, _⟩ := exd_at I.hok h2
    obtain ⟨od, _, _, ho, _⟩ := hn
    exact ⟨_, some od, e, rfl, rfl, ho⟩
/-- isinstance(e, c), e an error -/
def rIsX (K : PySem.W.Frag) : List V → Hp → VK → Prop := fun xs H Q => ∃ (a C : Addr) (c : V) (u : Value) (b : Bool), xs = [.ref a, c] ∧ ClsV c u ∧ ErrA H a C ∧ ExK K C ∧ PySem.W.kitOne K (.ref C) u = some b ∧ Q (.bl b) H
theorem call_isX : CallR X (.builtin "isinstance") (rIsX X.K) := by
  intro pins s σ H xs us Q I r h
  obtain ⟨a, C, c, u, b, rfl, k, er, ek, e, q⟩ := h
  obtain ⟨u1, u2, rfl, r1, r2⟩ := vals2 r
  have e2 := k.eq r2
  subst e2
  cases (show u1 = Value.ref a from r1)
  obtain ⟨ox, od, J⟩ := err_at I er
  exact PySem.W.kia_one (PySem.W.kitx_exc (ox := ox) (od := od) ek.cl ek.hg ek.hk ek.hs ek.ha ek.hn ek.ht ek.hm) I.kIn J e (fun z => nomatch z) fun tk => ⟨.bl b, H, I.tok tk, rfl, q⟩
/-- isinstance(e, (c1, c2, ..)), likewise -/
def rIsXT (K : PySem.W.Frag) : List V → Hp → VK → Prop := fun xs H Q => ∃ (a C tp : Addr) (cs : List V) (us : List Value) (b : Bool), xs = [.ref a, .ref tp] ∧ H tp = some (.tup cs) ∧ Paired ClsV cs us ∧ ErrA H a C ∧ ExK K C ∧ PySem.W.kitAny K (.ref C) us = some b ∧ Q (.bl b) H
theorem call_isXT : CallR X (.builtin "isinstance") (rIsXT X.K) := by
  intro pins s σ H xs us Q I r h
  obtain ⟨a, C, tp, cs, ws, b, rfl, hT, k, er, ek, e, q⟩ := h
  obtain ⟨u1, u2, rfl, r1, r2⟩ := vals2 r
  cases (show u1 = Value.ref a from r1)
  cases (show u2 = Value.ref tp from r2)
  obtain ⟨ox, od, J⟩ := err_at I er
  obtain ⟨_, its, rv, o, h1, h2, n, h3⟩ := (show ObjOk X.prog X.w H s.heap tp (.tup cs) from I.hok tp _ hT)
  have e3 := ClsV.all k rv
  subst e3
  obtain ⟨oc, od', dt, sl⟩ := o
  simp only at h2 h3
  subst h2 h3
  exact PySem.W.kia_tup (PySem.W.kitx_exc (ox := ox) (od := od) ek.cl ek.hg ek.hk ek.hs ek.ha ek.hn ek.ht ek.hm) I.kIn J h1 e (fun z => nomatch z) fun tk => ⟨.bl b, H, I.tok tk, rfl, q⟩
end
section
variable {X : Cx} {e o : Expr} {es : List Expr} {te to : TE} {ta : TA} {f : Str} {p p' pos : Pos} {newId initId b0 : String} {B : List Value}
/-- e.f, e an error with fields -/
def tErrF (K : PySem.W.Frag) (f : Str) (te : TE) : TE := fun σ H Q => te σ H fun x H1 => ∃ (a C : Addr) (v : V), x = .ref a ∧ XfC K C ∧ PySem.W.findIn K (.ref C) f = some none ∧ ErrV H1 a C f v ∧ Q v H1
theorem pe_errF (he : PE X e te) (hb : attributeBase e f X.env (eval e X.env) = eval e X.env := by rfl) : PE X (.Attribute e f pos) (tErrF X.K f te) := by
  refine ⟨fun pins s σ H Q I h => ?_⟩
  refine attr_of hb (thn (he.run pins s σ H _ I h) fun u s1 hh => ?_)
  obtain ⟨x, H1, I1, rx, a, C, v, ex, T, hno, ⟨dx, h1, h2⟩, q⟩ := hh
  subst ex
  obtain rfl : u = Value.ref a := rx
  obtain ⟨t1, e1⟩ := exo_at I1.hok h1
  obtain ⟨mA, hns, hr⟩ := exd_at I1.hok h2
  obtain ⟨od, ho, hl⟩ := lookIn_ns hns
  obtain ⟨u, hu, ru⟩ := RelO.some_of (v := v) (o := mA f) (by
    have z := hr f
    rw [show List.lookup f [(f, v)] = some v by simp [List.lookup]] at z
    exact z)
  have J : PySem.W.InstAt s1.heap a { cls := .ref C, dict := some dx, data := .fields #[.ref t1, .none, .none, .none, .bool false, .none] } C (some od) := ⟨e1, rfl, rfl, ho⟩
  exact HandSPX.exc_get I1.kIn J T.ga T.gg T.exC (PySem.W.findObj_own T.hdC hno rfl (by rw [hl, hu])) (handed_of ru) ⟨v, H1, I1.tok _, ru, q⟩
/-- C(), a new error without fields -/
def tErr0 (C : Addr) : TE := fun _ H Q => ∀ a, H a = none → Q (.ref a) (L2.upd H a (exo a C none))
theorem pe_err0 {x : Str} (T : OwnP X.K X.mg x) (hg : Gl X x) (hdb : (x == ("__debug__" : Str)) = false := by decide) : PE X (.Call (.Name x p) [] [] pos) (tErr0 T.C) := by
  refine ⟨fun pins s σ H Q I h => ?_⟩
  refine wpAny_Call_Name_kw (ld_glob I hg T.m ?_ hdb)
  refine PySem.W.callWith_K0 I.kIn T.kC ?_
  obtain ⟨bm, N, nm, qn, bs, hdct, sn, sub, ab, col, dd, k0, k1, k2, k3, k5, mN, hC, hN, hni, OT⟩ := exc_obj I.kIn T.ex
  refine wpAny_call_exc_subT PySem.F.excBase_ValueError OT hC hN hni (fun h' a hm => ?_) (Nat.zero_le _)
  have hn : H a = none := I.hok.gone hm.new
  obtain ⟨t, ht, _, _⟩ := hm.there
  exact ⟨.ref a, L2.upd H a (exo a T.C none), I.laidN hm.keeps hm.new hn (exo_ok ht), rfl, h a hn⟩
/-- C(e, ..), a new error, kept by C's own __init__ -/
def tErrE (C : Addr) (sp : Sp) (dvs : List V) (ta : TA) : TE := fun σ H Q => ta σ H fun vs H1 => vs.length ≤ 1000 ∧ ∀ a, H1 a = none → sp (.ref a :: (vs ++ dvs)) (L2.upd H1 a (exo a C none)) (fun v H2 => v = .non ∧ Q (.ref a) H2) (fun _ _ _ => False)
theorem pe_errE {CX : CXT} {x : Str} {C fI : Addr} {k : Nat} {fd : FuncData} {ps : List Str} {sp : Sp} {ds : List Value} {dvs : List V} (FB : ExcBaseFacts b0 newId initId B)
    (hC : ∃ nm q N bs bm sn sub ab col dd k0 k1 k2 k3 k5, X.K.lookup C = some (excClassObj nm q C N bs bm true sn sub ab col dd k0 k1 k2 k3 k5 newId) ∧ ∀ Y : String, bm.contains (.type Y) = B.contains (.type Y)) (kC : PySem.W.keepIn X.K (.ref C) = true)
    (iC : PySem.W.findIn X.K (.ref C) "__init__" = some (some (.ref fI))) (tI : PySem.W.typeIn X.K (.ref fI) = some (.type "function"))
    (F1 : FnOk X.prog X.w X.K X.mg X.base CX k fI fd ps sp) (hr : Room (k + 1) X.A) (hb : Binds X.K fd ps ds) (hd : Vals dvs ds) (hx : Passes CX X (fun _ _ _ => False)) (hg : Gl X x) (hm : X.mg x = some (.ref C)) (ha : PA X (e :: es) ta)
    (hdb : (x == ("__debug__" : Str)) = false := by decide) (he : starEach (e :: es) X.env = (false, eval e X.env) :: starEach es X.env := by rfl) (hpl : (backTo pos (starEach es X.env)).any (·.1) = false := by rfl) : PE X (.Call (.Name x p) (e :: es) [] pos) (tErrE C sp dvs ta) := by
  refine ⟨fun pins s σ H Q I h => ?_⟩
  obtain ⟨nm, q, N, bs, bm, sn, sub, ab, col, dd, k0, k1, k2, k3, k5, hC, hbm⟩ := hC
  refine wpAny_Call_Name_kw (ld_glob I hg hm ?_ hdb)
  refine PySem.W.callWith_K (h₀ := X.base) I.ok.mod.kin kC (thn (ha.run pos pins s σ H _ I h) fun us s1 ⟨vs, H1, I1, r1, hz, q1⟩ => ⟨I1.kIn, (show wpAny _ _ (call (.ref C) us) _ _ _ from ?_)⟩) he hpl
  obtain ⟨hp, g, dr, tk, os⟩ := s1
  have hsz : hp.objs.size ≤ hp.objs.size + 1 := Nat.le_succ _
  have hq := q1 (hp.objs.size + 1) (I1.hok.fresh hsz)
  have kk : ∀ b o, hp.get? b = some o → ((hp.push (PySem.W.kdv_tup us)).push (PySem.HandSPX.excO C hp.objs.size)).get? b = some o := fun b o z => Heap.get?_push_of_some _ (Heap.get?_push_of_some _ z)
  have hget : ((hp.push (PySem.W.kdv_tup us)).push (PySem.HandSPX.excO C hp.objs.size)).get? (hp.objs.size + 1) = some (PySem.HandSPX.excO C hp.objs.size) := by heap_get
  have I2 := I1.laid (t' := tk) (a := hp.objs.size + 1) (o := exo (hp.objs.size + 1) C none) (h' := (hp.push (PySem.W.kdv_tup us)).push (PySem.HandSPX.excO C hp.objs.size)) kk hsz (exo_ok hget)
  have r2 : Vals (V.ref (hp.objs.size + 1) :: (vs ++ dvs)) (Value.ref (hp.objs.size + 1) :: (us ++ ds)) := .cons rfl (r1.append hd)
  have hl : (Value.ref (hp.objs.size + 1) :: us ++ ds).length = ps.length := by
    have z := r2.length; rw [F1.len _ _ _ _ hq] at z; exact z.symm
  have hus : us.length ≤ sizeLine := by rw [← Paired.length r1, sizeLine_eq]; omega
  refine wpAny_call (PySem.HandSPX.call_own FB hbm (I1.kIn _ _ hC) (PySem.W.looks_findIn I1.kIn iC) (fun self => PySem.W.bind_fn I1.kIn self tI) hus
    (codeAny_mono (F1.run _ X.stack _ _ ⟨Value.ref (hp.objs.size + 1) :: us, []⟩ (Value.ref (hp.objs.size + 1) :: (us ++ ds)) _ _ (fun _ _ _ => False) (hr.make C us []) (I2.env0.make C us []) (hb _ (Value.ref (hp.objs.size + 1) :: us) I2.kIn hl) r2 hq) fun r s' hq' => ?_))
  rcases r with er | fl
  · exact hx pins σ _ _ er s' I2 hq'
  cases fl with
  | ret u =>
    obtain ⟨v, H2, os2, bare2, un2, hok2, rv, ev, q2⟩ := hq'
    subst ev
    exact ⟨rv, .ref (hp.objs.size + 1), H2, I2.call' (ch := []) os2 un2 hok2 bare2 (fun b z => absurd z (by simp)), rfl, q2⟩
  | _ => exact False.elim hq'
/-- a list times an int, the new list above the table of modules -/
def rRepN : R2 := fun x y H Q => ∃ l k xs, x = .ref l ∧ y = .int k ∧ H l = some (.lst xs) ∧ -(2 ^ 63) ≤ k ∧ k < 2 ^ 63 ∧ xs.length * k.toNat ≤ sizeLine ∧
  ∀ p, H p = none → sysModules < p → Q (.ref p) (L2.upd H p (.lst (List.replicate k.toNat xs).flatten))
end
theorem op_repN {X : Cx} : OpR X (binaryOp .Mult) rRepN := by
  intro pins s σ H x y v u Q I rx ry h
  obtain ⟨l, k, xs, rfl, rfl, hH, h1, h2, hz, q⟩ := h
  cases rx
  obtain ⟨t, rfl⟩ := ry
  have big := I.big
  obtain ⟨z, its, n, r, hl, e⟩ := I.lstM hH
  have hlen : its.toArray.size * k.toNat ≤ sizeLine := by rw [List.size_toArray, ← hl]; exact hz
  have hfit : ¬ (!Builtin.List.listFitsIndex k) = true := by rw [fitsIndex_both h1 h2]; decide
  have hcap : ¬ its.toArray.size * k.toNat > (2 ^ 63 - 1) / 8 := by
    have := (by decide : (sizeLine : Nat) ≤ (2 ^ 63 - 1) / 8)
    omega
  have hlong : ¬ Builtin.List.listTooLong (its.toArray.size * k.toNat) = true := by rw [notLongL hlen]; decide
  have f0 : ∀ m : Nat, List.foldl (fun x1 x2 => x1 ++ x2) #[] (List.replicate m its.toArray) = (List.replicate m its).flatten.toArray := fun m => (foldl_rep its m []).trans (by rw [List.nil_append])
  have hnew : List.foldl (fun x1 x2 => x1 ++ x2) #[] (List.replicate (if its.toArray.isEmpty = true then 0 else k.toNat) its.toArray) = (List.replicate k.toNat its).flatten.toArray := by
    rw [f0]
    cases its with
    | nil => simp
    | cons a r' => rw [if_neg (by simp)]
  refine wpAny_binaryOp_repeat_ref (T := "list") (U := "int") (by decide) ⟨_, e, rfl⟩ (fun s' => typeIs_int s' k t) noFill_list_mul F.fills_int_mul F.slot_int_rmul repeat_list F.slot_int_index.lookup
    (call_meets F.slot_int_rmul (typeIs_int s k t) F.entry_int_rmul (F.args_int_rmul_2 _ _) (int___rmul___int_list k t l its.toArray n)
      ⟨e, rfl, ⟨_, e, rfl⟩, call_meets F.slot_list_mul ⟨_, e, rfl⟩ F.entry_list_mul (F.args_list_mul_2 _ _) (AutoListH.list___mul___list_int_3 l its.toArray n k t hfit hcap hlong) ⟨e, ?_⟩⟩)
  rw [hnew]
  exact ⟨.ref _, _, I.lnew (t' := s.toks) (r.rep k.toNat) (by rw [PyProof.Rows.lm_len_rep_flat, Nat.mul_comm]; exact hz), rfl, q _ I.fresh big⟩
/-- a def that shows values, called where nothing is being shown -/
theorem pe_callG {X : Cx} {x : Str} {f : Addr} {k : Nat} {fd : FuncData} {ps : List Str} {sp : Sp} {e : Expr} {es : List Expr} {t : TA} {p pos : Pos} (F : FnG X.prog X.w X.K X.mg X.base k f fd ps sp) (gu : X.A.guards = some []) (hr : Room k X.A) (hg : Gl X x) (hm : X.mg x = some (.ref f)) (hk : PySem.W.keepIn X.K (.ref f) = true) (hb : Binds X.K fd ps []) (hx : Passes CX0 X (fun _ _ _ => False))
    (ha : PA X (e :: es) t) (hdb : (x == ("__debug__" : Str)) = false := by decide) (he : starEach (e :: es) X.env = (false, eval e X.env) :: starEach es X.env := by rfl) (hpl : (backTo pos (starEach es X.env)).any (·.1) = false := by rfl) :
    PE X (.Call (.Name x p) (e :: es) [] pos) (tCall sp [] (fun _ _ _ => False) t) := by
  refine ⟨fun pins s σ H Q I h => ?_⟩
  refine wpAny_Call_Name_kw (ld_glob I hg hm ?_ hdb)
  refine PySem.W.callWith_K (h₀ := X.base) I.ok.mod.kin hk (thn (ha.run pos pins s σ H _ I h) fun us s1 ⟨vs, H1, I1, r, q⟩ => ⟨I1.kIn, (show wpAny _ _ (call (.ref f) us) _ _ _ from ?_)⟩) he hpl
  have q : sp (vs ++ []) H1 Q (fun _ _ _ => False) := q
  rw [List.append_nil] at q
  have hl : us.length = ps.length := by rw [← r.length]; exact F.len _ _ _ _ q
  refine wpAny_call (codeAny_mono (F.run X.A gu hr X.stack s1 H1 I1.env0 ⟨us, []⟩ us (by simpa using hb s1 us I1.kIn (by simpa using hl)) vs r Q (fun _ _ _ => False) q) fun r s' hq => ?_)
  rcases r with er | fl
  · exact hx pins σ H1 s1 er s' I1 hq
  cases fl with
  | ret u => exact I1.after hq
  | _ => exact False.elim hq
end My
namespace My
/-- of which classes and bases the 17 errors are -/
def rows17 : List (List Bool) := (List.range 17).map fun i => (List.range 17).map (fun j => j == i) ++ [decide (i < 16), decide (i < 16), i == 16, i == 16, false, false]
end My
namespace My
open PySem PySem.Spec PyProof.Rows L2
def top (i : Nat) : Stmt := PySem.Challenge.pw_eitherbarter_k00_errors.main.body.getD i (.Pass ⟨0, 0, 0, 0⟩)
abbrev s_law_source : Stmt := top 21
abbrev s_law_pick : Stmt := top 22
abbrev s_law_kinds : Stmt := top 23
abbrev s_law_bases : Stmt := top 24
abbrev s_law_every : Stmt := top 25
abbrev s_law_kept : Stmt := top 26
abbrev s_law : Stmt := top 27
theorem sc_law_source : FnScope ["_law_script", "_law_mixed", "_law_cell"] ["_law_script"] (defScope s_law_source) := ⟨rfl, rfl, rfl, by decide +kernel, rfl, by decide +kernel, by decide +kernel⟩
theorem sc_law_pick : FnScope ["_law_source_here", "_law_many", "_law_left", "_law_mixed"] ["_law_source_here", "_law_many"] (defScope s_law_pick) := ⟨rfl, rfl, rfl, by decide +kernel, rfl, by decide +kernel, by decide +kernel⟩
theorem sc_law_kinds : FnScope ["_law_e", "_law_found"] ["_law_e"] (defScope s_law_kinds) := ⟨rfl, rfl, rfl, by decide +kernel, rfl, by decide +kernel, by decide +kernel⟩
theorem sc_law_bases : FnScope ["_law_e", "_law_found"] ["_law_e"] (defScope s_law_bases) := ⟨rfl, rfl, rfl, by decide +kernel, rfl, by decide +kernel, by decide +kernel⟩
theorem sc_law_every : FnScope ["_law_word", "_law_number", "_law_some", "_law_other", "_law_found"] ["_law_word", "_law_number", "_law_some", "_law_other"] (defScope s_law_every) := ⟨rfl, rfl, rfl, by decide +kernel, rfl, by decide +kernel, by decide +kernel⟩
theorem sc_law_kept : FnScope ["_law_every_here", "_law_word", "_law_number", "_law_some", "_law_other", "_law_paths", "_law_numbers", "_law_values"] ["_law_every_here", "_law_word", "_law_number", "_law_some", "_law_other"] (defScope s_law_kept) := ⟨rfl, rfl, rfl, by decide +kernel, rfl, by decide +kernel, by decide +kernel⟩
theorem sc_law : FnScope ["_law_script", "_law_source_here", "_law_great", "_law_lap", "_law_word", "_law_number", "_law_some", "_law_other", "_law_every_here", "_law_k", "_law_j"] ["_law_script"] (defScope s_law) := ⟨rfl, rfl, rfl, by decide +kernel, rfl, by decide +kernel, by decide +kernel⟩
abbrev s_BadBook : Stmt := top 5
theorem sc_BadBook : FnScope ["self", "path"] ["self", "path"] (defScope (initOf s_BadBook)) := ⟨rfl, rfl, rfl, by decide +kernel, rfl, by decide +kernel, by decide +kernel⟩
abbrev s_BadStock : Stmt := top 6
theorem sc_BadStock : FnScope ["self", "path"] ["self", "path"] (defScope (initOf s_BadStock)) := ⟨rfl, rfl, rfl, by decide +kernel, rfl, by decide +kernel, by decide +kernel⟩
abbrev s_BadTree : Stmt := top 7
theorem sc_BadTree : FnScope ["self", "path"] ["self", "path"] (defScope (initOf s_BadTree)) := ⟨rfl, rfl, rfl, by decide +kernel, rfl, by decide +kernel, by decide +kernel⟩
abbrev s_BadAccount : Stmt := top 8
theorem sc_BadAccount : FnScope ["self", "path"] ["self", "path"] (defScope (initOf s_BadAccount)) := ⟨rfl, rfl, rfl, by decide +kernel, rfl, by decide +kernel, by decide +kernel⟩
abbrev s_BadPrices : Stmt := top 9
theorem sc_BadPrices : FnScope ["self", "path"] ["self", "path"] (defScope (initOf s_BadPrices)) := ⟨rfl, rfl, rfl, by decide +kernel, rfl, by decide +kernel, by decide +kernel⟩
abbrev s_BadMade : Stmt := top 10
theorem sc_BadMade : FnScope ["self", "path"] ["self", "path"] (defScope (initOf s_BadMade)) := ⟨rfl, rfl, rfl, by decide +kernel, rfl, by decide +kernel, by decide +kernel⟩
abbrev s_NotGood : Stmt := top 11
theorem sc_NotGood : FnScope ["self", "square"] ["self", "square"] (defScope (initOf s_NotGood)) := ⟨rfl, rfl, rfl, by decide +kernel, rfl, by decide +kernel, by decide +kernel⟩
abbrev s_NoAccount : Stmt := top 12
theorem sc_NoAccount : FnScope ["self", "row"] ["self", "row"] (defScope (initOf s_NoAccount)) := ⟨rfl, rfl, rfl, by decide +kernel, rfl, by decide +kernel, by decide +kernel⟩
abbrev s_Pumped : Stmt := top 13
theorem sc_Pumped : FnScope ["self", "account"] ["self", "account"] (defScope (initOf s_Pumped)) := ⟨rfl, rfl, rfl, by decide +kernel, rfl, by decide +kernel, by decide +kernel⟩
abbrev s_BadDeed : Stmt := top 14
theorem sc_BadDeed : FnScope ["self", "number"] ["self", "number"] (defScope (initOf s_BadDeed)) := ⟨rfl, rfl, rfl, by decide +kernel, rfl, by decide +kernel, by decide +kernel⟩
abbrev s_BadOrder : Stmt := top 15
theorem sc_BadOrder : FnScope ["self", "number"] ["self", "number"] (defScope (initOf s_BadOrder)) := ⟨rfl, rfl, rfl, by decide +kernel, rfl, by decide +kernel, by decide +kernel⟩
abbrev s_BadText : Stmt := top 16
theorem sc_BadText : FnScope ["self", "place"] ["self", "place"] (defScope (initOf s_BadText)) := ⟨rfl, rfl, rfl, by decide +kernel, rfl, by decide +kernel, by decide +kernel⟩
abbrev s_BadAct : Stmt := top 17
theorem sc_BadAct : FnScope ["self", "word"] ["self", "word"] (defScope (initOf s_BadAct)) := ⟨rfl, rfl, rfl, by decide +kernel, rfl, by decide +kernel, by decide +kernel⟩
abbrev s_UnknownName : Stmt := top 19
theorem sc_UnknownName : FnScope ["self", "name"] ["self", "name"] (defScope (initOf s_UnknownName)) := ⟨rfl, rfl, rfl, by decide +kernel, rfl, by decide +kernel, by decide +kernel⟩
structure Tx (K : PySem.W.Frag) (mg : Str → Option Value) where
  a_law_source : Addr
  fd_law_source : FuncData
  F_law_source : Fun K "_law_source" "_law_source" s_law_source a_law_source fd_law_source
  b_law_source : Binds K fd_law_source ["_law_script"] []
  m_law_source : mg "_law_source" = some (.ref a_law_source)
  a_law_pick : Addr
  fd_law_pick : FuncData
  F_law_pick : Fun K "_law_pick" "_law_pick" s_law_pick a_law_pick fd_law_pick
  b_law_pick : Binds K fd_law_pick ["_law_source_here", "_law_many"] []
  m_law_pick : mg "_law_pick" = some (.ref a_law_pick)
  a_law_kinds : Addr
  fd_law_kinds : FuncData
  F_law_kinds : Fun K "_law_kinds" "_law_kinds" s_law_kinds a_law_kinds fd_law_kinds
  b_law_kinds : Binds K fd_law_kinds ["_law_e"] []
  m_law_kinds : mg "_law_kinds" = some (.ref a_law_kinds)
  a_law_bases : Addr
  fd_law_bases : FuncData
  F_law_bases : Fun K "_law_bases" "_law_bases" s_law_bases a_law_bases fd_law_bases
  b_law_bases : Binds K fd_law_bases ["_law_e"] []
  m_law_bases : mg "_law_bases" = some (.ref a_law_bases)
  a_law_every : Addr
  fd_law_every : FuncData
  F_law_every : Fun K "_law_every" "_law_every" s_law_every a_law_every fd_law_every
  b_law_every : Binds K fd_law_every ["_law_word", "_law_number", "_law_some", "_law_other"] []
  m_law_every : mg "_law_every" = some (.ref a_law_every)
  a_law_kept : Addr
  fd_law_kept : FuncData
  F_law_kept : Fun K "_law_kept" "_law_kept" s_law_kept a_law_kept fd_law_kept
  b_law_kept : Binds K fd_law_kept ["_law_every_here", "_law_word", "_law_number", "_law_some", "_law_other"] []
  m_law_kept : mg "_law_kept" = some (.ref a_law_kept)
  a_law : Addr
  fd_law : FuncData
  F_law : Fun K "law" "law" s_law a_law fd_law
  b_law : Binds K fd_law ["_law_script"] []
  m_law : mg "law" = some (.ref a_law)
  e_BadBook : OwnE K mg "BadBook" "BadBook.__init__" "path" s_BadBook
  e_BadStock : OwnE K mg "BadStock" "BadStock.__init__" "path" s_BadStock
  e_BadTree : OwnE K mg "BadTree" "BadTree.__init__" "path" s_BadTree
  e_BadAccount : OwnE K mg "BadAccount" "BadAccount.__init__" "path" s_BadAccount
  e_BadPrices : OwnE K mg "BadPrices" "BadPrices.__init__" "path" s_BadPrices
  e_BadMade : OwnE K mg "BadMade" "BadMade.__init__" "path" s_BadMade
  e_NotGood : OwnE K mg "NotGood" "NotGood.__init__" "square" s_NotGood
  e_NoAccount : OwnE K mg "NoAccount" "NoAccount.__init__" "row" s_NoAccount
  e_Pumped : OwnE K mg "Pumped" "Pumped.__init__" "account" s_Pumped
  e_BadDeed : OwnE K mg "BadDeed" "BadDeed.__init__" "number" s_BadDeed
  e_BadOrder : OwnE K mg "BadOrder" "BadOrder.__init__" "number" s_BadOrder
  e_BadText : OwnE K mg "BadText" "BadText.__init__" "place" s_BadText
  e_BadAct : OwnE K mg "BadAct" "BadAct.__init__" "word" s_BadAct
  e_UnknownName : OwnL K mg "UnknownName" "UnknownName.__init__" "name" s_UnknownName
  p_UnlikeBooks : OwnP K mg "UnlikeBooks"
  p_TooGreat : OwnP K mg "TooGreat"
  p_NothingDone : OwnP K mg "NothingDone"
  B_BarterError : Addr
  mB_BarterError : mg "BarterError" = some (.ref B_BarterError)
  B_NameMissing : Addr
  mB_NameMissing : mg "NameMissing" = some (.ref B_NameMissing)
  kt : kitT K [.ref p_UnlikeBooks.C, .ref p_TooGreat.C, .ref p_NothingDone.C, .ref e_BadBook.C, .ref e_BadStock.C, .ref e_BadTree.C, .ref e_BadAccount.C, .ref e_BadPrices.C, .ref e_BadMade.C, .ref e_NotGood.C, .ref e_NoAccount.C, .ref e_Pumped.C, .ref e_BadDeed.C, .ref e_BadOrder.C, .ref e_BadText.C, .ref e_BadAct.C, .ref e_UnknownName.C, .ref B_BarterError, .type "ValueError", .ref B_NameMissing, .type "LookupError", .type "KeyError", .type "IndexError"] [p_UnlikeBooks.C, p_TooGreat.C, p_NothingDone.C, e_BadBook.C, e_BadStock.C, e_BadTree.C, e_BadAccount.C, e_BadPrices.C, e_BadMade.C, e_NotGood.C, e_NoAccount.C, e_Pumped.C, e_BadDeed.C, e_BadOrder.C, e_BadText.C, e_BadAct.C, e_UnknownName.C] (rows17) = true
  n_IndexError : mg "IndexError" = none
  n_KeyError : mg "KeyError" = none
  n_LookupError : mg "LookupError" = none
  n_ValueError : mg "ValueError" = none
  n_abs : mg "abs" = none
  n_int : mg "int" = none
  n_isinstance : mg "isinstance" = none
  n_len : mg "len" = none
  n_max : mg "max" = none
  n_range : mg "range" = none
  n_repr : mg "repr" = none
  n_tuple : mg "tuple" = none
end My
namespace My
open PySem PySem.Spec PyProof.Rows L2
/-! ### lexemes, as functions of plain lists -/
abbrev SGN : Str := "(){},;"
abbrev LTR : Str := "abcdefghijklmnopqrstuvwxyz"
abbrev DIG : Str := "0123456789"
abbrev BLK : Str := " \n"
def inS (z : Str) (c : Nat) : Bool := decide (c ∈ z.cps.toList)
def txt (l : List Nat) : Str := ⟨l.toArray⟩
theorem txt_self (z : Str) : txt z.cps.toList = z := by
  obtain ⟨a⟩ := z
  show (⟨a.toList.toArray⟩ : Str) = ⟨a⟩
  rw [Array.toArray_toList]
theorem txt_len (l : List Nat) : (txt l).length = l.length := by
  show l.toArray.size = l.length
  rw [List.size_toArray]
theorem str_len (z : Str) : z.cps.toList.length = z.length := by
  show z.cps.toList.length = z.cps.size
  rw [Array.length_toList]
def runL (p : Nat → Bool) : List Nat → Nat
  | [] => 0
  | c :: r => if p c = true then runL p r + 1 else 0
theorem runL_le (p : Nat → Bool) : ∀ t : List Nat, runL p t ≤ t.length
  | [] => Nat.le_refl _
  | c :: r => by
    have ih := runL_le p r
    show (if p c = true then runL p r + 1 else 0) ≤ r.length + 1
    by_cases h : p c = true
    · rw [if_pos h]; omega
    · rw [if_neg h]; omega
theorem runL_yes {p : Nat → Bool} {c : Nat} {r : List Nat} (h : p c = true) : runL p (c :: r) = runL p r + 1 := if_pos h
theorem runL_no {p : Nat → Bool} {c : Nat} {r : List Nat} (h : p c = false) : runL p (c :: r) = 0 := if_neg (by rw [h]; exact Bool.false_ne_true)
theorem runL_nil {p : Nat → Bool} : runL p [] = 0 := rfl
def lexC (c : Nat) (r : List Nat) : Option (Str × Nat) :=
  if inS SGN c = true then some ("sign", 1)
  else if inS LTR c = true then (if runL (inS (LTR ++ DIG)) (c :: r) ≤ 12 then some ("word", runL (inS (LTR ++ DIG)) (c :: r)) else none)
  else if inS DIG c = true then some ("number", if c = 48 then 1 else runL (inS DIG) (c :: r)) else none
def lexL : List Nat → Option (Str × Nat)
  | [] => none
  | c :: r => lexC c r
theorem in_cat (c : Nat) : inS (LTR ++ DIG) c = (inS LTR c || inS DIG c) := by
  show decide (c ∈ (LTR.cps ++ DIG.cps).toList) = (decide (c ∈ LTR.cps.toList) || decide (c ∈ DIG.cps.toList))
  rw [Array.toList_append]
  by_cases h1 : c ∈ LTR.cps.toList <;> by_cases h2 : c ∈ DIG.cps.toList <;> simp [h1, h2]
theorem lexL_pos {c : Nat} {r : List Nat} {k : Str} {n : Nat} (h : lexL (c :: r) = some (k, n)) : 1 ≤ n ∧ n ≤ (c :: r).length := by
  have h : lexC c r = some (k, n) := h
  unfold lexC at h
  by_cases h1 : inS SGN c = true
  · rw [if_pos h1] at h
    cases h; exact ⟨Nat.le_refl _, Nat.succ_le_succ (Nat.zero_le _)⟩
  rw [if_neg h1] at h
  by_cases h2 : inS LTR c = true
  · rw [if_pos h2] at h
    by_cases h3 : runL (inS (LTR ++ DIG)) (c :: r) ≤ 12
    · rw [if_pos h3] at h
      cases h
      refine ⟨?_, runL_le _ _⟩
      rw [runL_yes (by rw [in_cat, h2]; rfl)]
      omega
    · rw [if_neg h3] at h
      cases h
  rw [if_neg h2] at h
  by_cases h3 : inS DIG c = true
  · rw [if_pos h3] at h
    cases h
    by_cases h4 : c = 48
    · rw [if_pos h4]; exact ⟨Nat.le_refl _, Nat.succ_le_succ (Nat.zero_le _)⟩
    · rw [if_neg h4]
      refine ⟨?_, runL_le _ _⟩
      rw [runL_yes h3]
      omega
  · rw [if_neg h3] at h
    cases h
abbrev Tk := Str × List Nat × Nat
def scanF : Nat → List Nat → Nat → List Tk × Option Nat
  | 0, _, _ => ([], none)
  | _ + 1, [], _ => ([], none)
  | f + 1, c :: r, p => if inS BLK c = true then scanF f r (p + 1) else match lexL (c :: r) with
    | none => ([], some p)
    | some (k, n) => ((k, (c :: r).take n, p) :: (scanF f ((c :: r).drop n) (p + n)).1, (scanF f ((c :: r).drop n) (p + n)).2)
theorem scanF_enough : ∀ (f g : Nat) (t : List Nat) (p : Nat), t.length < f → t.length < g → scanF f t p = scanF g t p
  | 0, _, _, _, h, _ => absurd h (Nat.not_lt_zero _)
  | _ + 1, 0, _, _, _, h => absurd h (Nat.not_lt_zero _)
  | f + 1, g + 1, [], p, _, _ => rfl
  | f + 1, g + 1, c :: r, p, h1, h2 => by
    have l : (c :: r).length = r.length + 1 := rfl
    unfold scanF
    by_cases hb : inS BLK c = true
    · rw [if_pos hb, if_pos hb]
      exact scanF_enough f g r (p + 1) (by omega) (by omega)
    · rw [if_neg hb, if_neg hb]
      cases e : lexL (c :: r) with
      | none => rfl
      | some q =>
        obtain ⟨k, n⟩ := q
        have ⟨n1, n2⟩ := lexL_pos e
        have ih := scanF_enough f g ((c :: r).drop n) (p + n) (by rw [List.length_drop]; omega) (by rw [List.length_drop]; omega)
        show ((k, (c :: r).take n, p) :: (scanF f ((c :: r).drop n) (p + n)).1, (scanF f ((c :: r).drop n) (p + n)).2) = ((k, (c :: r).take n, p) :: (scanF g ((c :: r).drop n) (p + n)).1, (scanF g ((c :: r).drop n) (p + n)).2)
        rw [ih]
def scan (t : List Nat) (p : Nat) : List Tk × Option Nat := scanF (t.length + 1) t p
theorem scan_nil (p : Nat) : scan [] p = ([], none) := rfl
theorem scan_blank {c : Nat} {r : List Nat} {p : Nat} (h : inS BLK c = true) : scan (c :: r) p = scan r (p + 1) := by
  show scanF (r.length + 1 + 1) (c :: r) p = _
  unfold scanF
  rw [if_pos h]
  rfl
theorem scan_none {c : Nat} {r : List Nat} {p : Nat} (h : inS BLK c = false) (e : lexL (c :: r) = none) : scan (c :: r) p = ([], some p) := by
  show scanF (r.length + 1 + 1) (c :: r) p = _
  unfold scanF
  rw [if_neg (by rw [h]; exact Bool.false_ne_true), e]
theorem scan_some {c : Nat} {r : List Nat} {p : Nat} {k : Str} {n : Nat} (h : inS BLK c = false) (e : lexL (c :: r) = some (k, n)) :
    scan (c :: r) p = ((k, (c :: r).take n, p) :: (scan ((c :: r).drop n) (p + n)).1, (scan ((c :: r).drop n) (p + n)).2) := by
  have ⟨n1, n2⟩ := lexL_pos e
  have l : (c :: r).length = r.length + 1 := rfl
  have q : scanF (r.length + 1) ((c :: r).drop n) (p + n) = scan ((c :: r).drop n) (p + n) := scanF_enough _ _ _ _ (by rw [List.length_drop]; omega) (Nat.lt_succ_self _)
  show scanF (r.length + 1 + 1) (c :: r) p = _
  unfold scanF
  rw [if_neg (by rw [h]; exact Bool.false_ne_true), e]
  show ((k, (c :: r).take n, p) :: (scanF (r.length + 1) ((c :: r).drop n) (p + n)).1, (scanF (r.length + 1) ((c :: r).drop n) (p + n)).2) = _
  rw [q]
/-- where the reading stops -/
def stopAt (t : List Nat) (o : Option Nat) : Nat := o.getD t.length
theorem at_drop {t : List Nat} {p : Nat} (h : p < t.length) : t.drop p = t[p] :: t.drop (p + 1) := List.drop_eq_getElem_cons h
/-! the tuples of lexemes, in the heap -/
def tkV (t : Tk) : List V := [.str t.1, .str (txt t.2.1), .int (t.2.2 : Nat)]
inductive Tks (H : Hp) : List V → List Tk → Prop
  | nil : Tks H [] []
  | cons {a : Addr} {t : Tk} {xs : List V} {ts : List Tk} (e : H a = some (.tup (tkV t))) (h : Tks H xs ts) : Tks H (.ref a :: xs) (t :: ts)
theorem Tks.keep {H H' : Hp} (g : ∀ a xs, H a = some (.tup xs) → H' a = some (.tup xs)) : ∀ {xs : List V} {ts : List Tk}, Tks H xs ts → Tks H' xs ts
  | _, _, .nil => .nil
  | _, _, .cons e h => .cons (g _ _ e) (h.keep g)
theorem Tks.same {H H' : Hp} {xs : List V} {ts : List Tk} (h : Tks H xs ts) (g : Same H H') : Tks H' xs ts := h.keep fun a _ e => g a _ e
theorem Tks.length {H : Hp} : ∀ {xs : List V} {ts : List Tk}, Tks H xs ts → xs.length = ts.length
  | _, _, .nil => rfl
  | _, _, .cons _ h => congrArg (· + 1) h.length
theorem Tks.snoc {H : Hp} {a : Addr} {t : Tk} (e : H a = some (.tup (tkV t))) : ∀ {xs : List V} {ts : List Tk}, Tks H xs ts → Tks H (xs ++ [.ref a]) (ts ++ [t])
  | _, _, .nil => .cons e .nil
  | _, _, .cons e' h => .cons e' (h.snoc e)
/-- the list at a, which is new, holds these -/
structure TkL (H : Hp) (a : Addr) (ts : List Tk) : Prop where
  at_ : ∃ xs, H a = some (.lst xs) ∧ Tks H xs ts
end My

namespace My
open PySem PySem.Spec PyProof.Rows L2
/-! ### over the signs of a text -/
theorem lc_str {z : Str} {g : TG} {tt : TT} {te : TE} {vs : List Nat} {σ : L2.St} {H1 : Hp} {D : Addr} {Qd : Hp → Prop} (Pv : Nat → Hp → Prop) (h0 : Pv 0 (L2.upd H1 D (.lst [])))
    (hs : ∀ i c H, z.cps.toList[i]? = some c → Pv i H → g (.str ⟨#[c]⟩) (wipe σ vs) H fun σ2 H2 => wipe σ2 vs = wipe σ vs ∧ tt σ2 H2 fun b H3 =>
      if b = true then te σ2 H3 (fun y H4 => ∃ acc, H4 D = some (.lst acc) ∧ acc.length < sizeLine ∧ Pv (i + 1) (L2.upd H4 D (.lst (acc ++ [y])))) else Pv (i + 1) H3)
    (hd : ∀ H, Pv z.length H → Qd H) :
    ∃ W : Nat → Nat → Hp → Prop, (∃ m, W 0 m (L2.upd H1 D (.lst []))) ∧ ∀ i m H, W i m H → ((Its z).stop i H ∧ Qd H) ∨
      ((Its z).go i H ∧ ∃ N : Hp → Prop, (∀ H', N H' → ∃ m', m' < m ∧ W (i + 1) m' H') ∧ ∀ x H', (Its z).yld i H x H' → g x (wipe σ vs) H' fun σ2 H2 => wipe σ2 vs = wipe σ vs ∧ tt σ2 H2 fun b H3 =>
        if b = true then te σ2 H3 (fun y H4 => ∃ acc, H4 D = some (.lst acc) ∧ acc.length < sizeLine ∧ N (L2.upd H4 D (.lst (acc ++ [y])))) else N H3) := by
  refine ⟨fun i m H => m = z.length - i ∧ i ≤ z.length ∧ Pv i H, ⟨z.length, rfl, Nat.zero_le _, h0⟩, fun i m H ⟨em, hi, p⟩ => ?_⟩
  by_cases hlt : i < z.length
  · refine .inr ⟨hlt, Pv (i + 1), fun H' p' => ⟨z.length - (i + 1), by omega, rfl, hlt, p'⟩, fun x H' ⟨e1, c, e2, e3⟩ => ?_⟩
    rw [e1, e3]
    exact hs i c H (by rw [Array.getElem?_toList]; exact e2) p
  · have e : i = z.length := by omega
    exact .inl ⟨Nat.le_of_not_lt hlt, hd H (e ▸ p)⟩
theorem for_str {z : Str} {g : TG} {tb : TS} {D : Ends} {σ : L2.St} {H : Hp} (Pv : Nat → L2.St → Hp → Prop) (h0 : Pv 0 σ H)
    (hs : ∀ i c σ H, z.cps.toList[i]? = some c → Pv i σ H → g (.str ⟨#[c]⟩) σ H fun σ2 H2 => tb { D with nx := Pv (i + 1), ct := Pv (i + 1), bk := D.nx } σ2 H2) (hd : ∀ σ H, Pv z.length σ H → D.nx σ H) :
    ∃ W : Nat → Nat → L2.St → Hp → Prop, (∃ m, W 0 m σ H) ∧ ∀ i m σ H, W i m σ H → ((Its z).stop i H ∧ D.nx σ H) ∨
      ((Its z).go i H ∧ ∃ N : L2.St → Hp → Prop, (∀ σ' H', N σ' H' → ∃ m', m' < m ∧ W (i + 1) m' σ' H') ∧ ∀ x H', (Its z).yld i H x H' → g x σ H' fun σ2 H2 => tb { D with nx := N, ct := N, bk := D.nx } σ2 H2) := by
  refine ⟨fun i m σ H => m = z.length - i ∧ i ≤ z.length ∧ Pv i σ H, ⟨z.length, rfl, Nat.zero_le _, h0⟩, fun i m σ H ⟨em, hi, p⟩ => ?_⟩
  by_cases hlt : i < z.length
  · refine .inr ⟨hlt, Pv (i + 1), fun σ' H' p' => ⟨z.length - (i + 1), by omega, rfl, hlt, p'⟩, fun x H' ⟨e1, c, e2, e3⟩ => ?_⟩
    rw [e1, e3]
    exact hs i c σ H (by rw [Array.getElem?_toList]; exact e2) p
  · have e : i = z.length := by omega
    exact .inl ⟨Nat.le_of_not_lt hlt, hd σ H (e ▸ p)⟩
end My

namespace My
open PySem PySem.Spec PyProof.Rows L2
section
variable {X : Cx} {es : List Expr} {t : TA} {pos : Pos}
/-- a list display whose list is told to lie above the table of modules -/
def tLstN (t : TA) : TE := fun σ H Q => t σ H fun xs H1 => xs.length ≤ sizeLine ∧ ∀ p, H1 p = none → sysModules < p → Q (.ref p) (L2.upd H1 p (.lst xs))
theorem pe_lstN (h : PA X es t) : PE X (.List es pos) (tLstN t) := by
  refine ⟨fun pins s σ H Q I hq => wpAny_List_spliced (thn (h.run pos pins s σ H _ I hq) ?_)⟩
  rintro us s1 ⟨xs, H1, I1, r, z, q⟩
  have fr : H1 s1.heap.objs.size = none := I1.hok.fresh (Nat.le_refl _)
  refine ⟨by rw [← r.length]; exact z, .ref s1.heap.objs.size, L2.upd H1 s1.heap.objs.size (.lst xs), ?_, rfl, q _ fr I1.big⟩
  exact I1.laid (t' := s1.toks) (fun b u e => Heap.get?_push_of_some _ e) (Nat.le_refl _) ⟨z, us, 0, r, Heap.get?_push_size _ rfl⟩
/-- list(..) of a list or tuple, likewise -/
theorem call_list_ofN : CallR X (.type "list") (fun xs H Q => ∃ p ys, xs = [.ref p] ∧ (SqL X.K H p ys ∨ SqT X.K H p ys) ∧ ∀ l, H l = none → sysModules < l → Q (.ref l) (L2.upd H l (.lst ys))) := by
  intro pins s σ H xs us Q I r h
  obtain ⟨p, ys, rfl, hq, q⟩ := h
  obtain ⟨u, rfl, rx⟩ := vals1 r
  cases rx
  have big := I.big
  have fr : H s.heap.objs.size = none := I.hok.fresh (Nat.le_refl _)
  have fin : ∀ (its : List Value), Vals ys its → ys.length ≤ sizeLine → ∀ (h' : Heap) (c' : Nat), (∀ b o', s.heap.get? b = some o' → h'.get? b = some o') → h'.get? s.heap.objs.size = some { cls := .type "list", dict := none, data := .seq its.toArray c', slots := #[] } →
      EP X pins σ Q (.ref s.heap.objs.size) { s with heap := h' } := by
    intro its r' hz h' c' kp e
    refine ⟨.ref s.heap.objs.size, L2.upd H s.heap.objs.size (.lst ys), I.laid (t' := s.toks) kp (Nat.le_refl _) ?_, rfl, q _ fr big⟩
    exact (show ObjOk X.prog X.w _ h' _ (.lst ys) from ⟨hz, its, c', r', e⟩)
  rcases hq with hq | hq
  · obtain ⟨its, r', pl, hz⟩ := I.list hq
    have hlen := r'.length
    obtain ⟨o, ho, hc, n, hd⟩ := pl.isList
    exact call_list_seq p (.inl rfl) ho hc hd (fun h' c' kp e => fin its r' hz h' c' kp e) (by rw [List.size_toArray]; omega)
  · obtain ⟨its, r', pl, hz⟩ := I.tuple hq
    have hlen := r'.length
    obtain ⟨o, ho, hc, n, hd⟩ := pl
    exact call_list_seq p (.inr rfl) ho hc hd (fun h' c' kp e => fin its r' hz h' c' kp e) (by rw [List.size_toArray]; omega)
end
end My

namespace My
open PySem PySem.Spec PyProof.Rows L2
section
variable {X : Cx}
theorem op_repS : OpR X (binaryOp .Mult) (fun x y H Q => ∃ z n, x = .str z ∧ y = .int n ∧ MulOk z n ∧ Q (.str (Txt.mul z n)) H) := by
  intro pins s σ H x y v u Q I rx ry h
  obtain ⟨z, n, rfl, rfl, ok, q⟩ := h
  obtain ⟨t, rfl⟩ := rx
  obtain ⟨t', rfl⟩ := ry
  exact SB.mul ok fun t2 k => ⟨.str _, H, I.tok _, ⟨_, rfl⟩, q⟩
end
def rTupOf (K : PySem.W.Frag) : List V → Hp → VK → Prop := fun xs H Q => ∃ p ys, xs = [.ref p] ∧ ((SqL K H p ys ∧ ∀ l, H l = none → Q (.ref l) (L2.upd H l (.tup ys))) ∨ SqT K H p ys ∧ Q (.ref p) H)
theorem call_tupK {X : Cx} : CallR X (.type "tuple") (rTupOf X.K) := call_tuple_of
end My

namespace My
open PySem PySem.Spec PyProof.Rows L2
section
variable {P : Program} {w : World} {K : PySem.W.Frag} {mg : Str → Option Value} {base : Heap}
theorem max1 {n : Int} (h : 1 ≤ n) : (if n > 1 then n else 1) = n := by
  by_cases e : n > 1
  · rw [if_pos e]
  · rw [if_neg e]; omega
/-- the number of cells that are left -/
def cellsLeft (c : Addr) (H : Hp) : Nat := match H c with
  | some (.lst xs) => xs.length
  | _ => 0
theorem ok_pick (T : Tx K mg) : FnOk P w K mg base CX0 1 T.a_law_pick T.fd_law_pick ["_law_source_here", "_law_many"] spPick := by
  refine T.F_law_pick.ok sc_law_pick (fun vs H Q E h => ?_) (fun cdv A outer st H vs Q E hr h => ?_)
  · obtain ⟨s, c, n, rfl, _⟩ := h
    rfl
  obtain ⟨s, c, n, rfl, hS, h1, h2, k⟩ := h
  have hu := hu_of hr
  refine ⟨_, ((pss_cons (ps_while PassesOwn.never (PW.pt (pw_and (pt_cmpR op_gt (pv 1) pe_int (nomark _)) (pw_and (pt_cmpR op_lt (pe_dget hu (pv 0) pe_str (fun _ _ => rfl)) pe_int (nomark _)) (pw_and1 (pt_cmpR op_gt (pe_callB call_len_seq (by rfl) T.n_len (by decide +kernel) (pa_cons (pe_dget hu (pv 0) pe_str (fun _ _ => rfl)) pa_nil)) pe_int (nomark _))))))
        (pss_one (ps_dput hu (pv 0) pe_str (pe_bm0 PySem.F.plainAttrs_list PySem.F.slot_list_pop PySem.F.type_list_pop mt_pop (pe_dget hu (pv 0) pe_str (fun _ _ => rfl))) rfl)))
      (pss_cons (ps_set (i := 2) sc_law_pick.nd rfl (Or.inl rfl) (pe_dget hu (pv 0) pe_str (fun _ _ => rfl)))
      (pss_cons (ps_if (PW.pt (pw_or (pt_cmpR op_lt (pv 1) pe_int (nomark _)) (pw_or1 (pt_cmpR op_gt (pv 2) pe_int (nomark _)))))
        (pss_cons (ps_dput hu (pv 0) pe_str (pe_op op_fdiv (pv 2) (pe_callB (call_max2 rfl) (by rfl) T.n_max (by decide +kernel) (pa_cons pe_int (pa_cons (pv 1) pa_nil)))) rfl)
      (pss_one (ps_ret (pe_op op_mod (pe_callTy call_int1 (by rfl) T.n_int (by decide +kernel) (pa_cons (pv 2) pa_nil)) (pe_callB (call_max2 rfl) (by rfl) T.n_max (by decide +kernel) (pa_cons pe_int (pa_cons (pv 1) pa_nil)))))))
        pss_nil)
      (pss_cons (ps_dput hu (pv 0) pe_str (pe_op op_add (pe_dget hu (pv 0) pe_str (fun _ _ => rfl)) pe_int) rfl)
      (pss_cons (ps_set (i := 3) sc_law_pick.nd rfl (Or.inl rfl) (pe_op op_mod (pe_callTy call_int1 (by rfl) T.n_int (by decide +kernel) (pa_cons (pe_op op_add (pe_dget hu (pv 0) pe_str (fun _ _ => rfl)) (pe_op op_mul (pe_dget hu (pv 0) pe_str (fun _ _ => rfl)) pe_int)) pa_nil)) pe_int))
      (pss_cons (ps_set (i := 3) sc_law_pick.nd rfl (Or.inl rfl) (pe_op op_mod (pe_callTy call_int1 (by rfl) T.n_int (by decide +kernel) (pa_cons (pe_op op_add (pe_op op_mul (pv 3) (pv 3)) (pe_op op_mul (pe_dget hu (pv 0) pe_str (fun _ _ => rfl)) pe_int)) pa_nil)) pe_int))
      (pss_cons (ps_dput hu (pv 0) pe_str (pv 3) rfl)
      (pss_one (ps_ret (pe_op op_mod (pe_callTy call_int1 (by rfl) T.n_int (by decide +kernel) (pa_cons (pe_op op_fdiv (pv 3) pe_int) pa_nil)) (pv 1)))))))))))), ?_⟩
  -- the while
  refine while_b (fun σ H' => σ = [some (.ref s), some (.int n), none, none] ∧ Go s c H H') (fun _ H' => cellsLeft c H') ⟨rfl, Go.refl hS⟩ ?_
  rintro σ H1 ⟨rfl, g⟩
  obtain ⟨l, m, t, ns, S⟩ := id g.src
  have gs : ∀ (x : Str) (v : V), valV (srcD c l m t) (Sum.inr x) = some v → DGet H1 s (.str x) (some v) := fun x v e => by
    rw [← e]
    exact DGet.k (k := Sum.inr x) S.hs
  by_cases hw : 1 < n ∧ l < 2 ∧ ns ≠ []
  · obtain ⟨w1, w2, w3⟩ := hw
    refine ⟨true, fun Q' q => ?_, ?_⟩
    · refine ⟨_, rfl, _, _, rfl, rfl, _, rfl, iteD (fun _ => ?_) (fun z => absurd w1 z)⟩
      refine ⟨_, rfl, s, _, rfl, gs "left" _ (get_left _ _ _ _), _, _, rfl, rfl, _, rfl, iteD (fun _ => ?_) (fun z => absurd w2 z)⟩
      refine ⟨_, rfl, s, _, rfl, gs "cells" _ (get_cells _ _ _ _), c, _, rfl, .inl (SqL.of S.hc), _, _, rfl, rfl, _, rfl, ?_⟩
      have e : decide ((0 : Int) < (((ns.map V.int).length : Nat) : Int)) = true := by
        rw [List.length_map]
        cases ns with
        | nil => exact absurd rfl w3
        | cons a r => exact decide_eq_true (by rw [List.length_cons]; omega)
      rw [e]
      exact q
    · refine iteT ?_
      have hlast : ∃ (y : Int), (ns.map V.int)[(ns.map V.int).length - 1]? = some (.int y) ∧ 0 ≤ y := by
        have hp : 0 < ns.length := List.length_pos_iff.mpr w3
        refine ⟨ns[ns.length - 1], ?_, S.n0 _ (List.getElem_mem _)⟩
        rw [List.length_map, List.getElem?_map, List.getElem?_eq_getElem (by omega)]
        rfl
      obtain ⟨y, ey, y0⟩ := hlast
      have hsc : s ≠ c := S.ne
      refine ⟨_, rfl, s, _, rfl, gs "cells" _ (get_cells _ _ _ _), .inl ⟨rfl, _, SqL.of S.hc⟩, c, _, _, rfl, rfl, S.hc, ey, ?_⟩
      refine ⟨_, rfl, s, _, rfl, DPut.k (k := Sum.inr "left") (kvs := srcD c l m t) (by rw [upd_ne hsc]; exact S.hs) (by show 4 < sizeLine; decide), ?_⟩
      rw [put_left]
      have S2 : SrcL (upd (upd H1 c (.lst (ns.map V.int).dropLast)) s (.dK (srcD c y m t))) s c y m t ns.dropLast :=
        ⟨upd_same, by rw [upd_ne hsc.symm, upd_same, List.map_dropLast], y0, S.m0, S.m1, S.t0, fun n h => S.n0 n (List.dropLast_subset _ h), by rw [List.length_dropLast]; have := S.len; omega⟩
      refine ⟨⟨rfl, ⟨fun a o h1 h2 e => ?_, _, _, _, _, S2⟩⟩, ?_⟩
      · rw [upd_ne h1, upd_ne h2]
        exact g.keep a o h1 h2 e
      · show cellsLeft c _ < cellsLeft c _
        unfold cellsLeft
        rw [S2.hc, S.hc]
        show (ns.dropLast.map V.int).length < (ns.map V.int).length
        rw [List.length_map, List.length_map, List.length_dropLast]
        have hp : 0 < ns.length := List.length_pos_iff.mpr w3
        omega
  · refine ⟨false, fun Q' q => ?_, iteF ?_⟩
    · refine ⟨_, rfl, _, _, rfl, rfl, _, rfl, iteD (fun w1 => ?_) (fun _ => q)⟩
      refine ⟨_, rfl, s, _, rfl, gs "left" _ (get_left _ _ _ _), _, _, rfl, rfl, _, rfl, iteD (fun w2 => ?_) (fun _ => q)⟩
      refine ⟨_, rfl, s, _, rfl, gs "cells" _ (get_cells _ _ _ _), c, _, rfl, .inl (SqL.of S.hc), _, _, rfl, rfl, _, rfl, ?_⟩
      have e0 : ns = [] := by
        cases e : ns with
        | nil => rfl
        | cons a r => exact absurd ⟨w1, w2, by rw [e]; exact List.cons_ne_nil _ _⟩ hw
      have e : decide ((0 : Int) < (((ns.map V.int).length : Nat) : Int)) = false := by
        rw [e0]
        rfl
      rw [e]
      exact q
    -- behind the while
    refine ⟨_, rfl, s, _, rfl, gs "left" _ (get_left _ _ _ _), ?_⟩
    have put : ∀ (l' m' t' : Int), 0 ≤ l' → 0 ≤ m' → m' < 4294967296 → 0 ≤ t' → ∀ H2, Go s c H H2 → (∀ b, b ≠ s → H2 b = H1 b) → SrcL (upd H2 s (.dK (srcD c l' m' t'))) s c l' m' t' ns ∧ Go s c H (upd H2 s (.dK (srcD c l' m' t'))) := fun l' m' t' a1 a2 a3 a4 H2 g2 e2 => by
      have S3 : SrcL (upd H2 s (.dK (srcD c l' m' t'))) s c l' m' t' ns := ⟨upd_same, by rw [upd_ne S.ne.symm, e2 _ S.ne.symm]; exact S.hc, a1, a2, a3, a4, S.n0, S.len⟩
      refine ⟨S3, fun a o h1 h2 e => ?_, _, _, _, _, S3⟩
      rw [upd_ne h1]
      exact g2.keep a o h1 h2 e
    have sz : (srcD c l m t).length < sizeLine := by show 4 < sizeLine; decide
    -- if many < 2 or left > 1
    refine ⟨_, rfl, _, _, rfl, rfl, _, rfl, iteD (fun c1 => ?ga) (fun c1 => ⟨_, rfl, _, _, rfl, rfl, _, rfl, iteD (fun c2 => ?gb) (fun c2 => ?gc)⟩)⟩
    case gc =>
      -- the mixed number
      have S2 := put l m (t + 1) S.l0 S.m0 S.m1 (by have := S.t0; omega) H1 g (fun _ _ => rfl)
      refine ⟨_, rfl, s, _, rfl, gs "turn" _ (get_turn _ _ _ _), _, _, rfl, rfl, _, rfl, s, _, rfl, DPut.k (k := Sum.inr "turn") S.hs sz, ?_⟩
      rw [put_turn]
      have gs2 : ∀ (x : Str) (v : V), valV (srcD c l m (t + 1)) (Sum.inr x) = some v → DGet (upd H1 s (.dK (srcD c l m (t + 1)))) s (.str x) (some v) := fun x v e => by
        rw [← e]
        exact DGet.k (k := Sum.inr x) upd_same
      refine ⟨_, rfl, s, _, rfl, gs2 "mixed" _ (get_mixed _ _ _ _), _, rfl, s, _, rfl, gs2 "turn" _ (get_turn _ _ _ _), _, _, rfl, rfl, .inr ⟨by decide, by decide⟩, _, _, rfl, rfl, .inl ⟨_, rfl, _, _, rfl, rfl, (by show (0 : Int) < 998244353; decide), ?_⟩⟩
      generalize hm : (m + (t + 1) * 104729) % 998244353 = m1
      have hm0 : 0 ≤ m1 ∧ m1 < 998244353 := by rw [← hm]; omega
      refine ⟨_, rfl, _, rfl, _, _, rfl, rfl, .inl ⟨by omega, by omega⟩, _, rfl, s, _, rfl, gs2 "turn" _ (get_turn _ _ _ _), _, _, rfl, rfl, .inr ⟨by decide, by decide⟩, _, _, rfl, rfl, .inl ⟨_, rfl, _, _, rfl, rfl, (by show (0 : Int) < 2147483647; decide), ?_⟩⟩
      generalize hn : (m1 * m1 + (t + 1) * 17) % 2147483647 = m2
      have hn0 : 0 ≤ m2 ∧ m2 < 2147483647 := by rw [← hn]; omega
      refine ⟨_, rfl, _, rfl, s, _, rfl, DPut.k (k := Sum.inr "mixed") S2.1.hs (by show 4 < sizeLine; decide), ?_⟩
      rw [put_mixed]
      have S3 := put l m2 (t + 1) S.l0 hn0.1 (by omega) (by have := S.t0; omega) _ S2.2 (fun b hb => upd_ne hb)
      refine ⟨_, rfl, _, _, rfl, rfl, ⟨by decide, by decide⟩, .inl ⟨_, rfl, _, rfl, _, _, rfl, rfl, (by omega : (0 : Int) < n), ?_⟩⟩
      subst hn
      subst hm
      exact k _ _ (Int.emod_nonneg _ (by omega)) (Int.emod_lt_of_pos _ (by omega)) S3.2
    all_goals
      have S2 := put (l / n) m t (Int.ediv_nonneg S.l0 (by omega)) S.m0 S.m1 S.t0 H1 g (fun _ _ => rfl)
      refine ⟨_, rfl, _, rfl, _, _, rfl, _, _, rfl, rfl, (by rw [max1 h1]; exact ⟨by omega, by omega⟩), _, rfl, s, _, rfl, DPut.k (k := Sum.inr "left") S.hs sz, ?_⟩
      rw [put_left, max1 h1]
      refine ⟨_, rfl, .inl ⟨_, rfl, _, rfl, _, _, rfl, _, _, rfl, rfl, (by rw [max1 h1]; omega : (0 : Int) < if n > 1 then n else 1), ?_⟩⟩
      rw [max1 h1]
      exact k _ _ (Int.emod_nonneg _ (by omega)) (Int.emod_lt_of_pos _ (by omega)) S2.2
theorem ok_source (T : Tx K mg) : FnOk P w K mg base CX0 1 T.a_law_source T.fd_law_source ["_law_script"] (spSource K) := by
  refine T.F_law_source.ok sc_law_source (fun vs H Q E h => ?_) (fun cdv A outer st H vs Q E hr h => ?_)
  · obtain ⟨a, ns, rfl, _⟩ := h
    rfl
  obtain ⟨a, ns, rfl, hS, hl, k⟩ := h
  refine ⟨_, ((pss_cons (ps_set (i := 1) sc_law_source.nd rfl (Or.inl rfl) pe_int)
      (pss_cons (ps_for PassesOwn.never rfl (pi_list (pv 0)) (pg_name (i := 2) sc_law_source.nd rfl (Or.inl rfl))
        (pss_one (ps_set (i := 1) sc_law_source.nd rfl (Or.inl rfl) (pe_op op_mod (pe_callTy call_int1 (by rfl) T.n_int (by decide +kernel) (pa_cons (pe_op op_add (pe_op op_add (pe_op op_mul (pv 1) pe_int) (pe_op op_mul (pv 2) pe_int)) pe_int) pa_nil)) pe_int))))
      (pss_one (ps_ret (pe_disp (pps_cons pe_str (pe_revL (pe_lc (own := [("_law_cell", 2)]) (by rfl) sc_law_source.nd (pi_list (pv 0)) (blkOk_by (own := [("_law_cell", 2)]) (N := ["_law_script", "_law_mixed", "_law_cell"]) (sc := defScope s_law_source) (by decide +kernel)) (fun _ _ _ _ _ => pg_name (i := 2) sc_law_source.nd rfl (Or.inl rfl)) (fun _ _ _ _ _ => pts_nil) (fun _ _ _ _ _ => (pe_callB call_abs (by rfl) T.n_abs (by decide +kernel) (pa_cons (pv 2) pa_nil))))) (pps_cons pe_str pe_int (pps_cons pe_str (pv 1) (pps_cons pe_str pe_int pps_nil)))) (by rfl) (by rfl) (fun z => by cases z) (by decide))))))), ?_⟩
  refine ⟨_, rfl, a, rfl, ⟨_, hS⟩, for_list (K := K) (a := a) (xs := ns.map V.int) (fun i σ H' => ∃ (m : Int) (v : Option V), σ = [some (.ref a), some (.int m), v] ∧ H' = H ∧ 0 ≤ m ∧ m < 2147483629) ⟨11, none, rfl, rfl, by decide, by decide⟩ (fun i σ H' _ ⟨_, _, _, e, _⟩ => e ▸ hS) ?_ ?_⟩
  · rintro i y σ H' hi ⟨m, v, rfl, rfl, m0, m1⟩
    obtain ⟨u, rfl⟩ : ∃ u, y = V.int u := by
      rw [List.getElem?_map] at hi
      cases e : ns[i]? with
      | none => rw [e] at hi; cases hi
      | some u => rw [e] at hi; exact ⟨u, (Option.some.inj hi).symm⟩
    refine ⟨_, rfl, _, _, rfl, rfl, .inr ⟨by decide, by decide⟩, _, rfl, _, _, rfl, rfl, .inr ⟨by decide, by decide⟩, _, _, rfl, rfl, _, _, rfl, rfl, .inl ⟨_, rfl, _, _, rfl, rfl, (by show (0 : Int) < 2147483629; decide), ?_⟩⟩
    exact ⟨_, _, rfl, rfl, Int.emod_nonneg _ (by decide), Int.emod_lt_of_pos _ (by decide)⟩
  · rintro σ H' ⟨m, v, rfl, rfl, m0, m1⟩
    intro p hp
    have s0 := same_new hp (.dK [])
    refine ⟨_, rfl, a, rfl, ⟨_, s0.seq hS⟩, fun D hD => ?_⟩
    have npD : p ≠ D := ne_of_none upd_same hD
    refine lc_list (K := K) (a := a) (xs := ns.map V.int) (fun i H2 => Same (upd H' p (.dK [])) H2 ∧ H2 D = some (.lst (((ns.take i).map fun n => if n < 0 then -n else n).map V.int))) ⟨same_new hD _, upd_same⟩ (fun i H2 _ z => z.1.seq (s0.seq hS)) ?_ ?_
    · rintro i y H2 hi ⟨s1, e1⟩
      have hil : i < ns.length := by
        have q := (List.getElem?_eq_some_iff.mp hi).1
        rw [List.length_map] at q
        exact q
      have ey : y = V.int ns[i] := by
        rw [List.getElem?_map, List.getElem?_eq_getElem hil] at hi
        exact (Option.some.inj hi).symm
      subst ey
      refine ⟨rfl, ?_⟩
      refine ⟨_, rfl, _, rfl, _, e1, ?_, ?_, ?_⟩
      · rw [List.length_map, List.length_map, List.length_take]
        exact small1000 (by omega)
      · intro b o e
        rw [upd_ne (ne_of_none e hD)]
        exact s1 b o e
      · rw [upd_same, List.take_succ_eq_append_getElem hil, List.map_append, List.map_append]
        rfl
    · rintro H2 ⟨s1, e1⟩
      refine ⟨D, _, rfl, SqL.of e1, fun c hc => ?_⟩
      have ncp : p ≠ c := ne_of_none (s1 _ _ upd_same) hc
      refine ⟨_, rfl, ?_⟩
      have ep : upd H2 c (.lst ((((ns.take (ns.map V.int).length).map fun n => if n < 0 then -n else n).map V.int).reverse)) p = some (.dK []) := by
        rw [upd_ne ncp]
        exact s1 _ _ upd_same
      refine ⟨ep, srcD c 1 m 0, rfl, (by show 4 ≤ 15; decide), ?_⟩
      rw [srcD_made]
      refine k p c _ ?_ hp ?_ ?_
      · intro b o e
        have nbp : b ≠ p := ne_of_none e hp
        have e2 := s1 b o (by rw [upd_ne nbp]; exact e)
        rw [upd_ne nbp, upd_ne (ne_of_none e2 hc)]
        exact e2
      · exact s0.free (s1.free hc)
      · refine ⟨1, m, 0, ((ns.take (ns.map V.int).length).map fun n => if n < 0 then -n else n).reverse, upd_same, ?_, by decide, m0, by omega, by decide, ?_, ?_⟩
        · rw [upd_ne ncp.symm, upd_same, List.map_reverse]
        · intro n hn
          rw [List.mem_reverse, List.mem_map] at hn
          obtain ⟨q, _, rfl⟩ := hn
          split <;> omega
        · rw [List.length_reverse, List.length_map, List.length_take]
          omega
end
end My

namespace My
open PySem PySem.Spec PyProof.Rows L2
def Lc (H : Hp) (D : Addr) (ys : List V) (i : Nat) (M : Hp) : Prop := Same H M ∧ M D = some (.lst (ys.take i))
theorem Lc.zero {H : Hp} {D : Addr} {ys : List V} (h : H D = none) : Lc H D ys 0 (L2.upd H D (.lst [])) := ⟨same_new h _, upd_same⟩
theorem Lc.lay {H M : Hp} {D : Addr} {ys : List V} {i : Nat} {y : V} (hD : H D = none) (h : Lc H D ys i M) (hy : ys[i]? = some y) (sm : ys.length ≤ 1000) :
    ∃ acc, M D = some (.lst acc) ∧ acc.length < sizeLine ∧ Lc H D ys (i + 1) (L2.upd M D (.lst (acc ++ [y]))) := by
  obtain ⟨hi, e⟩ := List.getElem?_eq_some_iff.mp hy
  refine ⟨_, h.2, small1000 (by rw [List.length_take]; omega), fun a o q => ?_, ?_⟩
  · rw [upd_ne (ne_of_none q hD)]; exact h.1 a o q
  · rw [upd_same, List.take_succ_eq_append_getElem hi, e]
theorem Lc.same {H M M' : Hp} {D : Addr} {ys : List V} {i : Nat} (h : Lc H D ys i M) (e : Same M M') : Lc H D ys i M' := ⟨h.1.trans e, e _ _ h.2⟩
theorem Lc.all {H M : Hp} {D : Addr} {ys : List V} {n : Nat} (h : Lc H D ys n M) (e : n = ys.length) : Same H M ∧ M D = some (.lst ys) := by
  refine ⟨h.1, ?_⟩
  have q := h.2
  rw [e, List.take_length] at q
  exact q
theorem eqv_same {d : PyData} (h : SeqAt.shaped d = true) : PyData.eqv d d = true := SeqAt.eqv_refl d (SeqAt.canLay_of_shaped h)
/-- the heap without the source of draws -/
def cutH (s c : Addr) (H : Hp) : Hp := fun b => if b = s ∨ b = c then none else H b
theorem cut_at' {s c b : Addr} {H : Hp} {u : HO} (h : cutH s c H b = some u) : b ≠ s ∧ b ≠ c ∧ H b = some u := by
  unfold cutH at h
  by_cases e : b = s ∨ b = c
  · rw [if_pos e] at h; cases h
  · rw [if_neg e] at h
    exact ⟨fun z => e (.inl z), fun z => e (.inr z), h⟩
theorem cut_in {s c b : Addr} {H : Hp} {u : HO} (n : b ≠ s ∧ b ≠ c) (h : H b = some u) : cutH s c H b = some u := by
  unfold cutH
  rw [if_neg (fun z => z.elim n.1 n.2)]
  exact h
theorem cut_same {s c : Addr} {H : Hp} : Same (cutH s c H) H := fun _ _ h => (cut_at' h).2.2
theorem cut_go {s c : Addr} {H H' : Hp} (g : Go s c H H') : Same (cutH s c H) (cutH s c H') := fun b u h => by
  have ⟨n1, n2, e⟩ := cut_at' h
  exact cut_in ⟨n1, n2⟩ (g.keep b u n1 n2 e)
theorem cut_of {s c : Addr} {H H' : Hp} (g : Same H H') : Same (cutH s c H) (cutH s c H') := fun b u h => by
  have ⟨n1, n2, e⟩ := cut_at' h
  exact cut_in ⟨n1, n2⟩ (g b u e)
end My

namespace My
open PySem PySem.Spec PyProof.Rows L2
theorem oexV {K : PySem.W.Frag} {C : Addr} (h : OexC K C) : ∃ nm q N bs bm sn sub ab col dd k0 k1 k2 k3 k5, K.lookup C = some (excClassObj nm q C N bs bm true sn sub ab col dd k0 k1 k2 k3 k5 "ValueError.__new__") ∧ ∀ Y : String, bm.contains (.type Y) = PySem.HandSPX.veTail.contains (.type Y) := by
  obtain ⟨nm, q, N, bs, bm, sn, sub, ab, col, dd, k0, k1, k2, k3, k5, hC, hb⟩ := h.cls
  exact ⟨nm, q, N, bs, bm, sn, sub, ab, col, dd, k0, k1, k2, k3, k5, hC, fun Y => PySem.HandSPX.refsVE_contains Y bm hb⟩
theorem oexL {K : PySem.W.Frag} {C : Addr} {n : String} {B : List Value} (h : OexG K C n B) : ∃ nm q N bs bm sn sub ab col dd k0 k1 k2 k3 k5, K.lookup C = some (excClassObj nm q C N bs bm true sn sub ab col dd k0 k1 k2 k3 k5 n) ∧ ∀ Y : String, bm.contains (.type Y) = B.contains (.type Y) := by
  obtain ⟨nm, q, N, bs, bm, sn, sub, ab, col, dd, k0, k1, k2, k3, k5, hC, hb⟩ := h.cls
  exact ⟨nm, q, N, bs, bm, sn, sub, ab, col, dd, k0, k1, k2, k3, k5, hC, fun Y => PySem.W.excTail_contains Y bm hb⟩
/-- an error is made at a: the rest stays, v is kept under f -/
def spInV (C : Addr) (f : Str) : Sp := fun vs H Q _ => ∃ (a : Addr) (v : V), vs = [.ref a, v] ∧ H a = some (exo a C none) ∧
  ∀ H2, (∀ b o, b ≠ a → H b = some o → H2 b = some o) → ErrV H2 a C f v → Q .non H2
/-- likewise, a tuple of what is given being kept under f -/
def spInT (C : Addr) (f : Str) : Sp := fun vs H Q _ => ∃ (a p : Addr) (ys : List V), vs = [.ref a, .ref p] ∧ H a = some (exo a C none) ∧ (H p = some (.lst ys) ∨ H p = some (.tup ys)) ∧
  ∀ H2 t, (∀ b o, b ≠ a → H b = some o → H2 b = some o) → ErrV H2 a C f (.ref t) → H2 t = some (.tup ys) → Q .non H2
theorem err_put {H : Hp} {a C dx : Addr} {f : Str} {v : V} (hd : H dx = none) (n : dx ≠ a) : (∀ b o, b ≠ a → H b = some o → L2.upd (L2.upd H dx (exd dx [(f, v)])) a (exo a C (some dx)) b = some o) ∧
    ErrV (L2.upd (L2.upd H dx (exd dx [(f, v)])) a (exo a C (some dx))) a C f v := by
  refine ⟨fun b o hb e => ?_, dx, upd_same, ?_⟩
  · rw [upd_ne hb, upd_ne (ne_of_none e hd)]
    exact e
  · rw [upd_ne n, upd_same]
section
variable {P : Program} {w : World} {K : PySem.W.Frag} {mg : Str → Option Value} {base : Heap}
theorem oki_BadBook (T : Tx K mg) : FnOk P w K mg base CX0 2 T.e_BadBook.fI T.e_BadBook.fd ["self", "path"] (spInT T.e_BadBook.C "path") := by
  refine T.e_BadBook.F.ok sc_BadBook (fun vs H Q E h => ?_) (fun cdv A outer st H vs Q E hr h => ?_)
  · obtain ⟨a, p, ys, rfl, _⟩ := h
    rfl
  obtain ⟨a, p, ys, rfl, ha, hp, k⟩ := h
  refine ⟨_, pss_one (ps_ost (pv 0) (pe_callTy (show CallR _ (.type "tuple") (rTupOf K) from call_tupK) (by rfl) T.n_tuple (by decide +kernel) (pa_cons (pv 1) pa_nil))), ?_⟩
  refine ⟨_, rfl, p, ys, rfl, ?_⟩
  rcases hp with hp | hp
  · refine .inl ⟨SqL.of hp, fun t ht => ?_⟩
    have ta : t ≠ a := fun z => by rw [z, ha] at ht; cases ht
    have hta : L2.upd H t (.tup ys) a = some (exo a T.e_BadBook.C none) := by rw [upd_ne ta.symm]; exact ha
    refine ⟨_, rfl, a, _, rfl, T.e_BadBook.oex, T.e_BadBook.noF, .inl ⟨hta, fun dx h1 h2 => ?_⟩⟩
    obtain ⟨q1, q2⟩ := err_put (C := T.e_BadBook.C) (f := "path") (v := .ref t) h1 h2
    exact k _ t (fun b o hb e => q1 b o hb (same_new ht _ b o e)) q2 (q1 t _ ta upd_same)
  · refine .inr ⟨SqT.of hp, ?_⟩
    refine ⟨_, rfl, a, _, rfl, T.e_BadBook.oex, T.e_BadBook.noF, .inl ⟨ha, fun dx h1 h2 => ?_⟩⟩
    obtain ⟨q1, q2⟩ := err_put (C := T.e_BadBook.C) (f := "path") (v := .ref p) h1 h2
    exact k _ p q1 q2 (q1 p _ (fun z => by rw [z, ha] at hp; exact exo_tup (Option.some.inj hp)) hp)
theorem oki_BadStock (T : Tx K mg) : FnOk P w K mg base CX0 2 T.e_BadStock.fI T.e_BadStock.fd ["self", "path"] (spInT T.e_BadStock.C "path") := by
  refine T.e_BadStock.F.ok sc_BadStock (fun vs H Q E h => ?_) (fun cdv A outer st H vs Q E hr h => ?_)
  · obtain ⟨a, p, ys, rfl, _⟩ := h
    rfl
  obtain ⟨a, p, ys, rfl, ha, hp, k⟩ := h
  refine ⟨_, pss_one (ps_ost (pv 0) (pe_callTy (show CallR _ (.type "tuple") (rTupOf K) from call_tupK) (by rfl) T.n_tuple (by decide +kernel) (pa_cons (pv 1) pa_nil))), ?_⟩
  refine ⟨_, rfl, p, ys, rfl, ?_⟩
  rcases hp with hp | hp
  · refine .inl ⟨SqL.of hp, fun t ht => ?_⟩
    have ta : t ≠ a := fun z => by rw [z, ha] at ht; cases ht
    have hta : L2.upd H t (.tup ys) a = some (exo a T.e_BadStock.C none) := by rw [upd_ne ta.symm]; exact ha
    refine ⟨_, rfl, a, _, rfl, T.e_BadStock.oex, T.e_BadStock.noF, .inl ⟨hta, fun dx h1 h2 => ?_⟩⟩
    obtain ⟨q1, q2⟩ := err_put (C := T.e_BadStock.C) (f := "path") (v := .ref t) h1 h2
    exact k _ t (fun b o hb e => q1 b o hb (same_new ht _ b o e)) q2 (q1 t _ ta upd_same)
  · refine .inr ⟨SqT.of hp, ?_⟩
    refine ⟨_, rfl, a, _, rfl, T.e_BadStock.oex, T.e_BadStock.noF, .inl ⟨ha, fun dx h1 h2 => ?_⟩⟩
    obtain ⟨q1, q2⟩ := err_put (C := T.e_BadStock.C) (f := "path") (v := .ref p) h1 h2
    exact k _ p q1 q2 (q1 p _ (fun z => by rw [z, ha] at hp; exact exo_tup (Option.some.inj hp)) hp)
theorem oki_BadTree (T : Tx K mg) : FnOk P w K mg base CX0 2 T.e_BadTree.fI T.e_BadTree.fd ["self", "path"] (spInT T.e_BadTree.C "path") := by
  refine T.e_BadTree.F.ok sc_BadTree (fun vs H Q E h => ?_) (fun cdv A outer st H vs Q E hr h => ?_)
  · obtain ⟨a, p, ys, rfl, _⟩ := h
    rfl
  obtain ⟨a, p, ys, rfl, ha, hp, k⟩ := h
  refine ⟨_, pss_one (ps_ost (pv 0) (pe_callTy (show CallR _ (.type "tuple") (rTupOf K) from call_tupK) (by rfl) T.n_tuple (by decide +kernel) (pa_cons (pv 1) pa_nil))), ?_⟩
  refine ⟨_, rfl, p, ys, rfl, ?_⟩
  rcases hp with hp | hp
  · refine .inl ⟨SqL.of hp, fun t ht => ?_⟩
    have ta : t ≠ a := fun z => by rw [z, ha] at ht; cases ht
    have hta : L2.upd H t (.tup ys) a = some (exo a T.e_BadTree.C none) := by rw [upd_ne ta.symm]; exact ha
    refine ⟨_, rfl, a, _, rfl, T.e_BadTree.oex, T.e_BadTree.noF, .inl ⟨hta, fun dx h1 h2 => ?_⟩⟩
    obtain ⟨q1, q2⟩ := err_put (C := T.e_BadTree.C) (f := "path") (v := .ref t) h1 h2
    exact k _ t (fun b o hb e => q1 b o hb (same_new ht _ b o e)) q2 (q1 t _ ta upd_same)
  · refine .inr ⟨SqT.of hp, ?_⟩
    refine ⟨_, rfl, a, _, rfl, T.e_BadTree.oex, T.e_BadTree.noF, .inl ⟨ha, fun dx h1 h2 => ?_⟩⟩
    obtain ⟨q1, q2⟩ := err_put (C := T.e_BadTree.C) (f := "path") (v := .ref p) h1 h2
    exact k _ p q1 q2 (q1 p _ (fun z => by rw [z, ha] at hp; exact exo_tup (Option.some.inj hp)) hp)
theorem oki_BadAccount (T : Tx K mg) : FnOk P w K mg base CX0 2 T.e_BadAccount.fI T.e_BadAccount.fd ["self", "path"] (spInT T.e_BadAccount.C "path") := by
  refine T.e_BadAccount.F.ok sc_BadAccount (fun vs H Q E h => ?_) (fun cdv A outer st H vs Q E hr h => ?_)
  · obtain ⟨a, p, ys, rfl, _⟩ := h
    rfl
  obtain ⟨a, p, ys, rfl, ha, hp, k⟩ := h
  refine ⟨_, pss_one (ps_ost (pv 0) (pe_callTy (show CallR _ (.type "tuple") (rTupOf K) from call_tupK) (by rfl) T.n_tuple (by decide +kernel) (pa_cons (pv 1) pa_nil))), ?_⟩
  refine ⟨_, rfl, p, ys, rfl, ?_⟩
  rcases hp with hp | hp
  · refine .inl ⟨SqL.of hp, fun t ht => ?_⟩
    have ta : t ≠ a := fun z => by rw [z, ha] at ht; cases ht
    have hta : L2.upd H t (.tup ys) a = some (exo a T.e_BadAccount.C none) := by rw [upd_ne ta.symm]; exact ha
    refine ⟨_, rfl, a, _, rfl, T.e_BadAccount.oex, T.e_BadAccount.noF, .inl ⟨hta, fun dx h1 h2 => ?_⟩⟩
    obtain ⟨q1, q2⟩ := err_put (C := T.e_BadAccount.C) (f := "path") (v := .ref t) h1 h2
    exact k _ t (fun b o hb e => q1 b o hb (same_new ht _ b o e)) q2 (q1 t _ ta upd_same)
  · refine .inr ⟨SqT.of hp, ?_⟩
    refine ⟨_, rfl, a, _, rfl, T.e_BadAccount.oex, T.e_BadAccount.noF, .inl ⟨ha, fun dx h1 h2 => ?_⟩⟩
    obtain ⟨q1, q2⟩ := err_put (C := T.e_BadAccount.C) (f := "path") (v := .ref p) h1 h2
    exact k _ p q1 q2 (q1 p _ (fun z => by rw [z, ha] at hp; exact exo_tup (Option.some.inj hp)) hp)
theorem oki_BadPrices (T : Tx K mg) : FnOk P w K mg base CX0 2 T.e_BadPrices.fI T.e_BadPrices.fd ["self", "path"] (spInT T.e_BadPrices.C "path") := by
  refine T.e_BadPrices.F.ok sc_BadPrices (fun vs H Q E h => ?_) (fun cdv A outer st H vs Q E hr h => ?_)
  · obtain ⟨a, p, ys, rfl, _⟩ := h
    rfl
  obtain ⟨a, p, ys, rfl, ha, hp, k⟩ := h
  refine ⟨_, pss_one (ps_ost (pv 0) (pe_callTy (show CallR _ (.type "tuple") (rTupOf K) from call_tupK) (by rfl) T.n_tuple (by decide +kernel) (pa_cons (pv 1) pa_nil))), ?_⟩
  refine ⟨_, rfl, p, ys, rfl, ?_⟩
  rcases hp with hp | hp
  · refine .inl ⟨SqL.of hp, fun t ht => ?_⟩
    have ta : t ≠ a := fun z => by rw [z, ha] at ht; cases ht
    have hta : L2.upd H t (.tup ys) a = some (exo a T.e_BadPrices.C none) := by rw [upd_ne ta.symm]; exact ha
    refine ⟨_, rfl, a, _, rfl, T.e_BadPrices.oex, T.e_BadPrices.noF, .inl ⟨hta, fun dx h1 h2 => ?_⟩⟩
    obtain ⟨q1, q2⟩ := err_put (C := T.e_BadPrices.C) (f := "path") (v := .ref t) h1 h2
    exact k _ t (fun b o hb e => q1 b o hb (same_new ht _ b o e)) q2 (q1 t _ ta upd_same)
  · refine .inr ⟨SqT.of hp, ?_⟩
    refine ⟨_, rfl, a, _, rfl, T.e_BadPrices.oex, T.e_BadPrices.noF, .inl ⟨ha, fun dx h1 h2 => ?_⟩⟩
    obtain ⟨q1, q2⟩ := err_put (C := T.e_BadPrices.C) (f := "path") (v := .ref p) h1 h2
    exact k _ p q1 q2 (q1 p _ (fun z => by rw [z, ha] at hp; exact exo_tup (Option.some.inj hp)) hp)
theorem oki_BadMade (T : Tx K mg) : FnOk P w K mg base CX0 2 T.e_BadMade.fI T.e_BadMade.fd ["self", "path"] (spInT T.e_BadMade.C "path") := by
  refine T.e_BadMade.F.ok sc_BadMade (fun vs H Q E h => ?_) (fun cdv A outer st H vs Q E hr h => ?_)
  · obtain ⟨a, p, ys, rfl, _⟩ := h
    rfl
  obtain ⟨a, p, ys, rfl, ha, hp, k⟩ := h
  refine ⟨_, pss_one (ps_ost (pv 0) (pe_callTy (show CallR _ (.type "tuple") (rTupOf K) from call_tupK) (by rfl) T.n_tuple (by decide +kernel) (pa_cons (pv 1) pa_nil))), ?_⟩
  refine ⟨_, rfl, p, ys, rfl, ?_⟩
  rcases hp with hp | hp
  · refine .inl ⟨SqL.of hp, fun t ht => ?_⟩
    have ta : t ≠ a := fun z => by rw [z, ha] at ht; cases ht
    have hta : L2.upd H t (.tup ys) a = some (exo a T.e_BadMade.C none) := by rw [upd_ne ta.symm]; exact ha
    refine ⟨_, rfl, a, _, rfl, T.e_BadMade.oex, T.e_BadMade.noF, .inl ⟨hta, fun dx h1 h2 => ?_⟩⟩
    obtain ⟨q1, q2⟩ := err_put (C := T.e_BadMade.C) (f := "path") (v := .ref t) h1 h2
    exact k _ t (fun b o hb e => q1 b o hb (same_new ht _ b o e)) q2 (q1 t _ ta upd_same)
  · refine .inr ⟨SqT.of hp, ?_⟩
    refine ⟨_, rfl, a, _, rfl, T.e_BadMade.oex, T.e_BadMade.noF, .inl ⟨ha, fun dx h1 h2 => ?_⟩⟩
    obtain ⟨q1, q2⟩ := err_put (C := T.e_BadMade.C) (f := "path") (v := .ref p) h1 h2
    exact k _ p q1 q2 (q1 p _ (fun z => by rw [z, ha] at hp; exact exo_tup (Option.some.inj hp)) hp)
theorem oki_NotGood (T : Tx K mg) : FnOk P w K mg base CX0 2 T.e_NotGood.fI T.e_NotGood.fd ["self", "square"] (spInV T.e_NotGood.C "square") := by
  refine T.e_NotGood.F.ok sc_NotGood (fun vs H Q E h => ?_) (fun cdv A outer st H vs Q E hr h => ?_)
  · obtain ⟨a, v, rfl, _⟩ := h
    rfl
  obtain ⟨a, v, rfl, ha, k⟩ := h
  refine ⟨_, pss_one (ps_ost (pv 0) (pv 1)), ?_⟩
  exact ⟨_, rfl, _, rfl, a, _, rfl, T.e_NotGood.oex, T.e_NotGood.noF, .inl ⟨ha, fun dx h1 h2 => k _ (err_put h1 h2).1 (err_put h1 h2).2⟩⟩
theorem oki_NoAccount (T : Tx K mg) : FnOk P w K mg base CX0 2 T.e_NoAccount.fI T.e_NoAccount.fd ["self", "row"] (spInV T.e_NoAccount.C "row") := by
  refine T.e_NoAccount.F.ok sc_NoAccount (fun vs H Q E h => ?_) (fun cdv A outer st H vs Q E hr h => ?_)
  · obtain ⟨a, v, rfl, _⟩ := h
    rfl
  obtain ⟨a, v, rfl, ha, k⟩ := h
  refine ⟨_, pss_one (ps_ost (pv 0) (pv 1)), ?_⟩
  exact ⟨_, rfl, _, rfl, a, _, rfl, T.e_NoAccount.oex, T.e_NoAccount.noF, .inl ⟨ha, fun dx h1 h2 => k _ (err_put h1 h2).1 (err_put h1 h2).2⟩⟩
theorem oki_Pumped (T : Tx K mg) : FnOk P w K mg base CX0 2 T.e_Pumped.fI T.e_Pumped.fd ["self", "account"] (spInV T.e_Pumped.C "account") := by
  refine T.e_Pumped.F.ok sc_Pumped (fun vs H Q E h => ?_) (fun cdv A outer st H vs Q E hr h => ?_)
  · obtain ⟨a, v, rfl, _⟩ := h
    rfl
  obtain ⟨a, v, rfl, ha, k⟩ := h
  refine ⟨_, pss_one (ps_ost (pv 0) (pv 1)), ?_⟩
  exact ⟨_, rfl, _, rfl, a, _, rfl, T.e_Pumped.oex, T.e_Pumped.noF, .inl ⟨ha, fun dx h1 h2 => k _ (err_put h1 h2).1 (err_put h1 h2).2⟩⟩
theorem oki_BadDeed (T : Tx K mg) : FnOk P w K mg base CX0 2 T.e_BadDeed.fI T.e_BadDeed.fd ["self", "number"] (spInV T.e_BadDeed.C "number") := by
  refine T.e_BadDeed.F.ok sc_BadDeed (fun vs H Q E h => ?_) (fun cdv A outer st H vs Q E hr h => ?_)
  · obtain ⟨a, v, rfl, _⟩ := h
    rfl
  obtain ⟨a, v, rfl, ha, k⟩ := h
  refine ⟨_, pss_one (ps_ost (pv 0) (pv 1)), ?_⟩
  exact ⟨_, rfl, _, rfl, a, _, rfl, T.e_BadDeed.oex, T.e_BadDeed.noF, .inl ⟨ha, fun dx h1 h2 => k _ (err_put h1 h2).1 (err_put h1 h2).2⟩⟩
theorem oki_BadOrder (T : Tx K mg) : FnOk P w K mg base CX0 2 T.e_BadOrder.fI T.e_BadOrder.fd ["self", "number"] (spInV T.e_BadOrder.C "number") := by
  refine T.e_BadOrder.F.ok sc_BadOrder (fun vs H Q E h => ?_) (fun cdv A outer st H vs Q E hr h => ?_)
  · obtain ⟨a, v, rfl, _⟩ := h
    rfl
  obtain ⟨a, v, rfl, ha, k⟩ := h
  refine ⟨_, pss_one (ps_ost (pv 0) (pv 1)), ?_⟩
  exact ⟨_, rfl, _, rfl, a, _, rfl, T.e_BadOrder.oex, T.e_BadOrder.noF, .inl ⟨ha, fun dx h1 h2 => k _ (err_put h1 h2).1 (err_put h1 h2).2⟩⟩
theorem oki_BadText (T : Tx K mg) : FnOk P w K mg base CX0 2 T.e_BadText.fI T.e_BadText.fd ["self", "place"] (spInV T.e_BadText.C "place") := by
  refine T.e_BadText.F.ok sc_BadText (fun vs H Q E h => ?_) (fun cdv A outer st H vs Q E hr h => ?_)
  · obtain ⟨a, v, rfl, _⟩ := h
    rfl
  obtain ⟨a, v, rfl, ha, k⟩ := h
  refine ⟨_, pss_one (ps_ost (pv 0) (pv 1)), ?_⟩
  exact ⟨_, rfl, _, rfl, a, _, rfl, T.e_BadText.oex, T.e_BadText.noF, .inl ⟨ha, fun dx h1 h2 => k _ (err_put h1 h2).1 (err_put h1 h2).2⟩⟩
theorem oki_BadAct (T : Tx K mg) : FnOk P w K mg base CX0 2 T.e_BadAct.fI T.e_BadAct.fd ["self", "word"] (spInV T.e_BadAct.C "word") := by
  refine T.e_BadAct.F.ok sc_BadAct (fun vs H Q E h => ?_) (fun cdv A outer st H vs Q E hr h => ?_)
  · obtain ⟨a, v, rfl, _⟩ := h
    rfl
  obtain ⟨a, v, rfl, ha, k⟩ := h
  refine ⟨_, pss_one (ps_ost (pv 0) (pv 1)), ?_⟩
  exact ⟨_, rfl, _, rfl, a, _, rfl, T.e_BadAct.oex, T.e_BadAct.noF, .inl ⟨ha, fun dx h1 h2 => k _ (err_put h1 h2).1 (err_put h1 h2).2⟩⟩
theorem oki_UnknownName (T : Tx K mg) : FnOk P w K mg base CX0 2 T.e_UnknownName.fI T.e_UnknownName.fd ["self", "name"] (spInV T.e_UnknownName.C "name") := by
  refine T.e_UnknownName.F.ok sc_UnknownName (fun vs H Q E h => ?_) (fun cdv A outer st H vs Q E hr h => ?_)
  · obtain ⟨a, v, rfl, _⟩ := h
    rfl
  obtain ⟨a, v, rfl, ha, k⟩ := h
  refine ⟨_, pss_one (ps_ostG (newId := "LookupError.__new__") PySem.F.store_LookupError (pv 0) (pv 1)), ?_⟩
  exact ⟨_, rfl, _, rfl, a, _, rfl, T.e_UnknownName.oex, T.e_UnknownName.noF, ha, fun dx h1 h2 => k _ (err_put h1 h2).1 (err_put h1 h2).2⟩
end
end My

namespace My
open PySem PySem.Spec PyProof.Rows L2
/-- whether the i-th error is of the j-th class -/
def rowB (i j : Nat) : Bool := if j < 17 then j == i else if j < 19 then decide (i < 16) else if j < 21 then i == 16 else false
theorem rows_get {i : Nat} (hi : i < 17) : rows17[i]? = some ((List.range 23).map (rowB i)) := by
  have all : ∀ k : Fin 17, rows17[k.val]? = some ((List.range 23).map (rowB k.val)) := by decide +kernel
  exact all ⟨i, hi⟩
def kindsV (i : Nat) : List V := (List.range 17).map fun j => V.bl (j == i)
def basesV (i : Nat) : List V := [.bl (decide (i < 16)), .bl (decide (i < 16)), .bl (i == 16), .bl (i == 16), .bl false]
section
variable {P : Program} {w : World} {K : PySem.W.Frag} {mg : Str → Option Value} {base : Heap}
def clsL (T : Tx K mg) : List Addr := [T.p_UnlikeBooks.C, T.p_TooGreat.C, T.p_NothingDone.C, T.e_BadBook.C, T.e_BadStock.C, T.e_BadTree.C, T.e_BadAccount.C, T.e_BadPrices.C, T.e_BadMade.C, T.e_NotGood.C, T.e_NoAccount.C, T.e_Pumped.C, T.e_BadDeed.C, T.e_BadOrder.C, T.e_BadText.C, T.e_BadAct.C, T.e_UnknownName.C]
def usL (T : Tx K mg) : List Value := [.ref T.p_UnlikeBooks.C, .ref T.p_TooGreat.C, .ref T.p_NothingDone.C, .ref T.e_BadBook.C, .ref T.e_BadStock.C, .ref T.e_BadTree.C, .ref T.e_BadAccount.C, .ref T.e_BadPrices.C, .ref T.e_BadMade.C, .ref T.e_NotGood.C, .ref T.e_NoAccount.C, .ref T.e_Pumped.C, .ref T.e_BadDeed.C, .ref T.e_BadOrder.C, .ref T.e_BadText.C, .ref T.e_BadAct.C, .ref T.e_UnknownName.C, .ref T.B_BarterError, .type "ValueError", .ref T.B_NameMissing, .type "LookupError", .type "KeyError", .type "IndexError"]
theorem kit_get (T : Tx K mg) {i j : Nat} {C : Addr} {u : Value} (hi : (clsL T)[i]? = some C) (hj : (usL T)[j]? = some u) : ExK K C ∧ PySem.W.kitOne K (.ref C) u = some (rowB i j) := by
  have li : i < 17 := (List.getElem?_eq_some_iff.mp hi).1
  have lj : j < 23 := (List.getElem?_eq_some_iff.mp hj).1
  obtain ⟨r, e1, e2, e3⟩ := kitT_ok T.kt i C hi
  rw [rows_get li] at e1
  cases e1
  refine ⟨e2, ?_⟩
  have e3 : (usL T).map (PySem.W.kitOne K (.ref C)) = ((List.range 23).map (rowB i)).map some := e3
  have q := congrArg (fun l => l[j]?) e3
  simp only [List.getElem?_map] at q
  rw [hj, List.getElem?_range lj] at q
  exact Option.some.inj q
def spKinds (T : Tx K mg) : Sp := fun vs H Q _ => ∃ (a C : Addr) (i : Nat), vs = [.ref a] ∧ ErrA H a C ∧ (clsL T)[i]? = some C ∧ ∀ H' l, Same H H' → H' l = some (.lst (kindsV i)) → Q (.ref l) H'
def spBases (T : Tx K mg) : Sp := fun vs H Q _ => ∃ (a C : Addr) (i : Nat), vs = [.ref a] ∧ ErrA H a C ∧ (clsL T)[i]? = some C ∧ ∀ H' l, Same H H' → H' l = some (.lst (basesV i)) → Q (.ref l) H'
theorem ok_kinds (T : Tx K mg) : FnOk P w K mg base CX0 2 T.a_law_kinds T.fd_law_kinds ["_law_e"] (spKinds T) := by
  refine T.F_law_kinds.ok sc_law_kinds (fun vs H Q E h => ?_) (fun cdv A outer st H vs Q E hr h => ?_)
  · obtain ⟨a, C, i, rfl, _⟩ := h
    rfl
  obtain ⟨a, C, i, rfl, ea, hi, k⟩ := h
  refine ⟨_, ((pss_cons (ps_set (i := 1) sc_law_kinds.nd rfl (Or.inl rfl) (pe_lst (pa_cons (pe_callB call_isX (by rfl) T.n_isinstance (by decide +kernel) (pa_cons (pv 0) (pa_cons (pe_glob (v := .ref T.p_UnlikeBooks.C) rfl T.p_UnlikeBooks.m rfl) pa_nil))) (pa_cons (pe_callB call_isX (by rfl) T.n_isinstance (by decide +kernel) (pa_cons (pv 0) (pa_cons (pe_glob (v := .ref T.p_TooGreat.C) rfl T.p_TooGreat.m rfl) pa_nil))) (pa_cons (pe_callB call_isX (by rfl) T.n_isinstance (by decide +kernel) (pa_cons (pv 0) (pa_cons (pe_glob (v := .ref T.p_NothingDone.C) rfl T.p_NothingDone.m rfl) pa_nil))) (pa_cons (pe_callB call_isX (by rfl) T.n_isinstance (by decide +kernel) (pa_cons (pv 0) (pa_cons (pe_glob (v := .ref T.e_BadBook.C) rfl T.e_BadBook.m rfl) pa_nil))) pa_nil))))))
      (pss_cons (ps_set (i := 1) sc_law_kinds.nd rfl (Or.inl rfl) (pe_op op_cat (pv 1) (pe_lst (pa_cons (pe_callB call_isX (by rfl) T.n_isinstance (by decide +kernel) (pa_cons (pv 0) (pa_cons (pe_glob (v := .ref T.e_BadStock.C) rfl T.e_BadStock.m rfl) pa_nil))) (pa_cons (pe_callB call_isX (by rfl) T.n_isinstance (by decide +kernel) (pa_cons (pv 0) (pa_cons (pe_glob (v := .ref T.e_BadTree.C) rfl T.e_BadTree.m rfl) pa_nil))) (pa_cons (pe_callB call_isX (by rfl) T.n_isinstance (by decide +kernel) (pa_cons (pv 0) (pa_cons (pe_glob (v := .ref T.e_BadAccount.C) rfl T.e_BadAccount.m rfl) pa_nil))) pa_nil))))))
      (pss_cons (ps_set (i := 1) sc_law_kinds.nd rfl (Or.inl rfl) (pe_op op_cat (pv 1) (pe_lst (pa_cons (pe_callB call_isX (by rfl) T.n_isinstance (by decide +kernel) (pa_cons (pv 0) (pa_cons (pe_glob (v := .ref T.e_BadPrices.C) rfl T.e_BadPrices.m rfl) pa_nil))) (pa_cons (pe_callB call_isX (by rfl) T.n_isinstance (by decide +kernel) (pa_cons (pv 0) (pa_cons (pe_glob (v := .ref T.e_BadMade.C) rfl T.e_BadMade.m rfl) pa_nil))) (pa_cons (pe_callB call_isX (by rfl) T.n_isinstance (by decide +kernel) (pa_cons (pv 0) (pa_cons (pe_glob (v := .ref T.e_NotGood.C) rfl T.e_NotGood.m rfl) pa_nil))) pa_nil))))))
      (pss_cons (ps_set (i := 1) sc_law_kinds.nd rfl (Or.inl rfl) (pe_op op_cat (pv 1) (pe_lst (pa_cons (pe_callB call_isX (by rfl) T.n_isinstance (by decide +kernel) (pa_cons (pv 0) (pa_cons (pe_glob (v := .ref T.e_NoAccount.C) rfl T.e_NoAccount.m rfl) pa_nil))) (pa_cons (pe_callB call_isX (by rfl) T.n_isinstance (by decide +kernel) (pa_cons (pv 0) (pa_cons (pe_glob (v := .ref T.e_Pumped.C) rfl T.e_Pumped.m rfl) pa_nil))) (pa_cons (pe_callB call_isX (by rfl) T.n_isinstance (by decide +kernel) (pa_cons (pv 0) (pa_cons (pe_glob (v := .ref T.e_BadDeed.C) rfl T.e_BadDeed.m rfl) pa_nil))) (pa_cons (pe_callB call_isX (by rfl) T.n_isinstance (by decide +kernel) (pa_cons (pv 0) (pa_cons (pe_glob (v := .ref T.e_BadOrder.C) rfl T.e_BadOrder.m rfl) pa_nil))) pa_nil)))))))
      (pss_one (ps_ret (pe_op op_cat (pv 1) (pe_lst (pa_cons (pe_callB call_isX (by rfl) T.n_isinstance (by decide +kernel) (pa_cons (pv 0) (pa_cons (pe_glob (v := .ref T.e_BadText.C) rfl T.e_BadText.m rfl) pa_nil))) (pa_cons (pe_callB call_isX (by rfl) T.n_isinstance (by decide +kernel) (pa_cons (pv 0) (pa_cons (pe_glob (v := .ref T.e_BadAct.C) rfl T.e_BadAct.m rfl) pa_nil))) (pa_cons (pe_callB call_isX (by rfl) T.n_isinstance (by decide +kernel) (pa_cons (pv 0) (pa_cons (pe_glob (v := .ref T.e_UnknownName.C) rfl T.e_UnknownName.m rfl) pa_nil))) pa_nil)))))))))))), ?_⟩
  have h0 : Same H H := fun _ _ e => e
  refine ⟨_, rfl, ⟨a, C, _, _, _, rfl, (.own _), ea.same h0, (kit_get T hi (j := 0) rfl).1, (kit_get T hi (j := 0) rfl).2, ⟨_, rfl, ⟨a, C, _, _, _, rfl, (.own _), ea.same h0, (kit_get T hi (j := 1) rfl).1, (kit_get T hi (j := 1) rfl).2, ⟨_, rfl, ⟨a, C, _, _, _, rfl, (.own _), ea.same h0, (kit_get T hi (j := 2) rfl).1, (kit_get T hi (j := 2) rfl).2, ⟨_, rfl, ⟨a, C, _, _, _, rfl, (.own _), ea.same h0, (kit_get T hi (j := 3) rfl).1, (kit_get T hi (j := 3) rfl).2, ⟨(by show 4 ≤ sizeLine; decide), fun p0 h => ?_⟩⟩⟩⟩⟩⟩⟩⟩⟩
  have t0 := same_new h (.lst [.bl (rowB i 0), .bl (rowB i 1), .bl (rowB i 2), .bl (rowB i 3)])
  refine ⟨_, rfl, ⟨_, rfl, ⟨a, C, _, _, _, rfl, (.own _), ea.same t0, (kit_get T hi (j := 4) rfl).1, (kit_get T hi (j := 4) rfl).2, ⟨_, rfl, ⟨a, C, _, _, _, rfl, (.own _), ea.same t0, (kit_get T hi (j := 5) rfl).1, (kit_get T hi (j := 5) rfl).2, ⟨_, rfl, ⟨a, C, _, _, _, rfl, (.own _), ea.same t0, (kit_get T hi (j := 6) rfl).1, (kit_get T hi (j := 6) rfl).2, ⟨(by show 3 ≤ sizeLine; decide), fun q0 hq0 => ?_⟩⟩⟩⟩⟩⟩⟩⟩
  have u0 := same_new hq0 (.lst [.bl (rowB i 4), .bl (rowB i 5), .bl (rowB i 6)])
  refine ⟨p0, q0, _, _, rfl, rfl, u0 _ _ upd_same, upd_same, (by show 7 ≤ sizeLine; decide), fun p1 h0 => ?_⟩
  have w0 := same_new h0 (.lst [.bl (rowB i 0), .bl (rowB i 1), .bl (rowB i 2), .bl (rowB i 3), .bl (rowB i 4), .bl (rowB i 5), .bl (rowB i 6)])
  have t1 := t0.trans (u0.trans w0)
  refine ⟨_, rfl, ⟨_, rfl, ⟨a, C, _, _, _, rfl, (.own _), ea.same t1, (kit_get T hi (j := 7) rfl).1, (kit_get T hi (j := 7) rfl).2, ⟨_, rfl, ⟨a, C, _, _, _, rfl, (.own _), ea.same t1, (kit_get T hi (j := 8) rfl).1, (kit_get T hi (j := 8) rfl).2, ⟨_, rfl, ⟨a, C, _, _, _, rfl, (.own _), ea.same t1, (kit_get T hi (j := 9) rfl).1, (kit_get T hi (j := 9) rfl).2, ⟨(by show 3 ≤ sizeLine; decide), fun q1 hq1 => ?_⟩⟩⟩⟩⟩⟩⟩⟩
  have u1 := same_new hq1 (.lst [.bl (rowB i 7), .bl (rowB i 8), .bl (rowB i 9)])
  refine ⟨p1, q1, _, _, rfl, rfl, u1 _ _ upd_same, upd_same, (by show 10 ≤ sizeLine; decide), fun p2 h1 => ?_⟩
  have w1 := same_new h1 (.lst [.bl (rowB i 0), .bl (rowB i 1), .bl (rowB i 2), .bl (rowB i 3), .bl (rowB i 4), .bl (rowB i 5), .bl (rowB i 6), .bl (rowB i 7), .bl (rowB i 8), .bl (rowB i 9)])
  have t2 := t1.trans (u1.trans w1)
  refine ⟨_, rfl, ⟨_, rfl, ⟨a, C, _, _, _, rfl, (.own _), ea.same t2, (kit_get T hi (j := 10) rfl).1, (kit_get T hi (j := 10) rfl).2, ⟨_, rfl, ⟨a, C, _, _, _, rfl, (.own _), ea.same t2, (kit_get T hi (j := 11) rfl).1, (kit_get T hi (j := 11) rfl).2, ⟨_, rfl, ⟨a, C, _, _, _, rfl, (.own _), ea.same t2, (kit_get T hi (j := 12) rfl).1, (kit_get T hi (j := 12) rfl).2, ⟨_, rfl, ⟨a, C, _, _, _, rfl, (.own _), ea.same t2, (kit_get T hi (j := 13) rfl).1, (kit_get T hi (j := 13) rfl).2, ⟨(by show 4 ≤ sizeLine; decide), fun q2 hq2 => ?_⟩⟩⟩⟩⟩⟩⟩⟩⟩⟩
  have u2 := same_new hq2 (.lst [.bl (rowB i 10), .bl (rowB i 11), .bl (rowB i 12), .bl (rowB i 13)])
  refine ⟨p2, q2, _, _, rfl, rfl, u2 _ _ upd_same, upd_same, (by show 14 ≤ sizeLine; decide), fun p3 h2 => ?_⟩
  have w2 := same_new h2 (.lst [.bl (rowB i 0), .bl (rowB i 1), .bl (rowB i 2), .bl (rowB i 3), .bl (rowB i 4), .bl (rowB i 5), .bl (rowB i 6), .bl (rowB i 7), .bl (rowB i 8), .bl (rowB i 9), .bl (rowB i 10), .bl (rowB i 11), .bl (rowB i 12), .bl (rowB i 13)])
  have t3 := t2.trans (u2.trans w2)
  refine ⟨_, rfl, ⟨_, rfl, ⟨a, C, _, _, _, rfl, (.own _), ea.same t3, (kit_get T hi (j := 14) rfl).1, (kit_get T hi (j := 14) rfl).2, ⟨_, rfl, ⟨a, C, _, _, _, rfl, (.own _), ea.same t3, (kit_get T hi (j := 15) rfl).1, (kit_get T hi (j := 15) rfl).2, ⟨_, rfl, ⟨a, C, _, _, _, rfl, (.own _), ea.same t3, (kit_get T hi (j := 16) rfl).1, (kit_get T hi (j := 16) rfl).2, ⟨(by show 3 ≤ sizeLine; decide), fun q3 hq3 => ?_⟩⟩⟩⟩⟩⟩⟩⟩
  have u3 := same_new hq3 (.lst [.bl (rowB i 14), .bl (rowB i 15), .bl (rowB i 16)])
  refine ⟨p3, q3, _, _, rfl, rfl, u3 _ _ upd_same, upd_same, (by show 17 ≤ sizeLine; decide), fun p4 h3 => ?_⟩
  have w3 := same_new h3 (.lst [.bl (rowB i 0), .bl (rowB i 1), .bl (rowB i 2), .bl (rowB i 3), .bl (rowB i 4), .bl (rowB i 5), .bl (rowB i 6), .bl (rowB i 7), .bl (rowB i 8), .bl (rowB i 9), .bl (rowB i 10), .bl (rowB i 11), .bl (rowB i 12), .bl (rowB i 13), .bl (rowB i 14), .bl (rowB i 15), .bl (rowB i 16)])
  have t4 := t3.trans (u3.trans w3)
  exact k _ _ t4 upd_same
theorem ok_bases (T : Tx K mg) : FnOk P w K mg base CX0 2 T.a_law_bases T.fd_law_bases ["_law_e"] (spBases T) := by
  refine T.F_law_bases.ok sc_law_bases (fun vs H Q E h => ?_) (fun cdv A outer st H vs Q E hr h => ?_)
  · obtain ⟨a, C, i, rfl, _⟩ := h
    rfl
  obtain ⟨a, C, i, rfl, ea, hi, k⟩ := h
  refine ⟨_, ((pss_cons (ps_set (i := 1) sc_law_bases.nd rfl (Or.inl rfl) (pe_lst (pa_cons (pe_callB call_isX (by rfl) T.n_isinstance (by decide +kernel) (pa_cons (pv 0) (pa_cons (pe_glob (v := .ref T.B_BarterError) rfl T.mB_BarterError rfl) pa_nil))) (pa_cons (pe_callB call_isX (by rfl) T.n_isinstance (by decide +kernel) (pa_cons (pv 0) (pa_cons (pe_bltn (v := .ty "ValueError") (by rfl) T.n_ValueError (by decide +kernel) rfl) pa_nil))) pa_nil))))
      (pss_one (ps_ret (pe_op op_cat (pv 1) (pe_lst (pa_cons (pe_callB call_isX (by rfl) T.n_isinstance (by decide +kernel) (pa_cons (pv 0) (pa_cons (pe_glob (v := .ref T.B_NameMissing) rfl T.mB_NameMissing rfl) pa_nil))) (pa_cons (pe_callB call_isX (by rfl) T.n_isinstance (by decide +kernel) (pa_cons (pv 0) (pa_cons (pe_bltn (v := .ty "LookupError") (by rfl) T.n_LookupError (by decide +kernel) rfl) pa_nil))) (pa_cons (pe_callB call_isXT (by rfl) T.n_isinstance (by decide +kernel) (pa_cons (pv 0) (pa_cons (pe_tup (pa_cons (pe_bltn (v := .ty "KeyError") (by rfl) T.n_KeyError (by decide +kernel) rfl) (pa_cons (pe_bltn (v := .ty "IndexError") (by rfl) T.n_IndexError (by decide +kernel) rfl) pa_nil))) pa_nil))) pa_nil))))))))), ?_⟩
  have hS : Same H H := fun _ _ e => e
  refine ⟨_, rfl, ⟨a, C, _, _, _, rfl, .own _, ea.same hS, (kit_get T hi (j := 17) rfl).1, (kit_get T hi (j := 17) rfl).2, ⟨_, rfl, ⟨a, C, _, _, _, rfl, .ty _, ea.same hS, (kit_get T hi (j := 18) rfl).1, (kit_get T hi (j := 18) rfl).2, ⟨(by show 2 ≤ sizeLine; decide), fun p0 h0 => ?_⟩⟩⟩⟩⟩
  have t0 := same_new h0 (.lst [.bl (rowB i 17), .bl (rowB i 18)])
  refine ⟨_, rfl, ⟨_, rfl, ⟨a, C, _, _, _, rfl, .own _, ea.same t0, (kit_get T hi (j := 19) rfl).1, (kit_get T hi (j := 19) rfl).2, ⟨_, rfl, ⟨a, C, _, _, _, rfl, .ty _, ea.same t0, (kit_get T hi (j := 20) rfl).1, (kit_get T hi (j := 20) rfl).2, ⟨_, rfl, (by show 2 ≤ sizeLine; decide), fun tp htp => ?_⟩⟩⟩⟩⟩⟩
  have t1 := same_new htp (.tup [.ty "KeyError", .ty "IndexError"])
  have ka : PySem.W.kitAny K (.ref C) [.type "KeyError", .type "IndexError"] = some false :=
    kitAny_cons (b := false) (kit_get T hi (j := 21) rfl).2 (fun _ => kitAny_cons (b := false) (kit_get T hi (j := 22) rfl).2 (fun _ => kitAny_nil) (fun z => nomatch z)) (fun z => nomatch z)
  refine ⟨a, C, tp, _, _, false, rfl, upd_same, .cons (.ty _) (.cons (.ty _) .nil), ea.same (t0.trans t1), (kit_get T hi (j := 21) rfl).1, ka, ⟨(by show 3 ≤ sizeLine; decide), fun p1 h1 => ?_⟩⟩
  have t2 := same_new h1 (.lst [.bl (rowB i 19), .bl (rowB i 20), .bl false])
  refine ⟨p0, p1, _, _, rfl, rfl, t2 _ _ (t1 _ _ upd_same), upd_same, (by show 5 ≤ sizeLine; decide), fun p2 h2 => ?_⟩
  exact k _ _ (t0.trans (t1.trans (t2.trans (same_new h2 _)))) upd_same
end
end My

namespace My
open PySem PySem.Spec PyProof.Rows L2
/-- an error whose path is a tuple of ys -/
def ErrP (H : Hp) (a C : Addr) (ys : List V) : Prop := ∃ t : Addr, ErrV H a C "path" (.ref t) ∧ H t = some (.tup ys)
theorem ErrP.same {H H' : Hp} {a C : Addr} {ys : List V} (e : Same H H') (h : ErrP H a C ys) : ErrP H' a C ys := by
  obtain ⟨t, h1, h2⟩ := h
  exact ⟨t, h1.same e, e _ _ h2⟩
theorem ErrP.a {H : Hp} {a C : Addr} {ys : List V} (h : ErrP H a C ys) : ErrA H a C := by
  obtain ⟨t, h1, _⟩ := h
  exact h1.a
theorem mk_same {M M' : Hp} {a C : Addr} (h : M a = none) (k : ∀ b o, b ≠ a → L2.upd M a (exo a C none) b = some o → M' b = some o) : Same M M' := fun b o e => k b o (ne_of_none e h) (same_new h _ b o e)
theorem or_same {H H' : Hp} {p : Addr} {ys : List V} (e : Same H H') (h : H p = some (.lst ys) ∨ H p = some (.tup ys)) : H' p = some (.lst ys) ∨ H' p = some (.tup ys) := h.imp (e _ _) (e _ _)
section
variable {P : Program} {w : World} {K : PySem.W.Frag} {mg : Str → Option Value} {base : Heap}
/-- the 17 errors with what they keep -/
structure Ev (T : Tx K mg) (H : Hp) (x n o : V) (ys : List V) (a0 a1 a2 a3 a4 a5 a6 a7 a8 a9 a10 a11 a12 a13 a14 a15 a16 : Addr) : Prop where
  e0 : ErrA H a0 T.p_UnlikeBooks.C
  e1 : ErrA H a1 T.p_TooGreat.C
  e2 : ErrA H a2 T.p_NothingDone.C
  e3 : ErrP H a3 T.e_BadBook.C ys
  e4 : ErrP H a4 T.e_BadStock.C ys
  e5 : ErrP H a5 T.e_BadTree.C ys
  e6 : ErrP H a6 T.e_BadAccount.C ys
  e7 : ErrP H a7 T.e_BadPrices.C ys
  e8 : ErrP H a8 T.e_BadMade.C ys
  e9 : ErrV H a9 T.e_NotGood.C "square" o
  e10 : ErrV H a10 T.e_NoAccount.C "row" o
  e11 : ErrV H a11 T.e_Pumped.C "account" o
  e12 : ErrV H a12 T.e_BadDeed.C "number" n
  e13 : ErrV H a13 T.e_BadOrder.C "number" n
  e14 : ErrV H a14 T.e_BadText.C "place" n
  e15 : ErrV H a15 T.e_BadAct.C "word" x
  e16 : ErrV H a16 T.e_UnknownName.C "name" o
theorem Ev.same {T : Tx K mg} {H H' : Hp} {x n o : V} {ys : List V} {a0 a1 a2 a3 a4 a5 a6 a7 a8 a9 a10 a11 a12 a13 a14 a15 a16 : Addr} (e : Same H H') (h : Ev T H x n o ys a0 a1 a2 a3 a4 a5 a6 a7 a8 a9 a10 a11 a12 a13 a14 a15 a16) : Ev T H' x n o ys a0 a1 a2 a3 a4 a5 a6 a7 a8 a9 a10 a11 a12 a13 a14 a15 a16 :=
  ⟨h.e0.same e, h.e1.same e, h.e2.same e, h.e3.same e, h.e4.same e, h.e5.same e, h.e6.same e, h.e7.same e, h.e8.same e, h.e9.same e, h.e10.same e, h.e11.same e, h.e12.same e, h.e13.same e, h.e14.same e, h.e15.same e, h.e16.same e⟩
theorem Ev.get {T : Tx K mg} {H : Hp} {x n o : V} {ys : List V} {a0 a1 a2 a3 a4 a5 a6 a7 a8 a9 a10 a11 a12 a13 a14 a15 a16 : Addr} (h : Ev T H x n o ys a0 a1 a2 a3 a4 a5 a6 a7 a8 a9 a10 a11 a12 a13 a14 a15 a16) : ∀ i, i < 17 → ∃ a C, ([.ref a0, .ref a1, .ref a2, .ref a3, .ref a4, .ref a5, .ref a6, .ref a7, .ref a8, .ref a9, .ref a10, .ref a11, .ref a12, .ref a13, .ref a14, .ref a15, .ref a16] : List V)[i]? = some (.ref a) ∧ (clsL T)[i]? = some C ∧ ErrA H a C
  | 0, _ => ⟨_, _, rfl, rfl, h.e0⟩
  | 1, _ => ⟨_, _, rfl, rfl, h.e1⟩
  | 2, _ => ⟨_, _, rfl, rfl, h.e2⟩
  | 3, _ => ⟨_, _, rfl, rfl, h.e3.a⟩
  | 4, _ => ⟨_, _, rfl, rfl, h.e4.a⟩
  | 5, _ => ⟨_, _, rfl, rfl, h.e5.a⟩
  | 6, _ => ⟨_, _, rfl, rfl, h.e6.a⟩
  | 7, _ => ⟨_, _, rfl, rfl, h.e7.a⟩
  | 8, _ => ⟨_, _, rfl, rfl, h.e8.a⟩
  | 9, _ => ⟨_, _, rfl, rfl, h.e9.a⟩
  | 10, _ => ⟨_, _, rfl, rfl, h.e10.a⟩
  | 11, _ => ⟨_, _, rfl, rfl, h.e11.a⟩
  | 12, _ => ⟨_, _, rfl, rfl, h.e12.a⟩
  | 13, _ => ⟨_, _, rfl, rfl, h.e13.a⟩
  | 14, _ => ⟨_, _, rfl, rfl, h.e14.a⟩
  | 15, _ => ⟨_, _, rfl, rfl, h.e15.a⟩
  | 16, _ => ⟨_, _, rfl, rfl, h.e16.a⟩
  | n + 17, h => absurd h (by omega)
def spEvery (T : Tx K mg) : Sp := fun vs H Q _ => ∃ (x n o : V) (p : Addr) (ys : List V), vs = [x, n, .ref p, o] ∧ (H p = some (.lst ys) ∨ H p = some (.tup ys)) ∧
  ∀ H' l a0 a1 a2 a3 a4 a5 a6 a7 a8 a9 a10 a11 a12 a13 a14 a15 a16, Same H H' → H' l = some (.lst [.ref a0, .ref a1, .ref a2, .ref a3, .ref a4, .ref a5, .ref a6, .ref a7, .ref a8, .ref a9, .ref a10, .ref a11, .ref a12, .ref a13, .ref a14, .ref a15, .ref a16]) → Ev T H' x n o ys a0 a1 a2 a3 a4 a5 a6 a7 a8 a9 a10 a11 a12 a13 a14 a15 a16 → Q (.ref l) H'
theorem ok_every (T : Tx K mg) : FnOk P w K mg base CX0 4 T.a_law_every T.fd_law_every ["_law_word", "_law_number", "_law_some", "_law_other"] (spEvery T) := by
  refine T.F_law_every.ok sc_law_every (fun vs H Q E h => ?_) (fun cdv A outer st H vs Q E hr h => ?_)
  · obtain ⟨x, n, o, p, ys, rfl, _⟩ := h
    rfl
  obtain ⟨x, n, o, p, ys, rfl, hp, k⟩ := h
  have hr3 : Room 3 _ := hr
  refine ⟨_, ((pss_cons (ps_set (i := 4) sc_law_every.nd rfl (Or.inl rfl) (pe_lstN (pa_cons (pe_err0 T.p_UnlikeBooks rfl) (pa_cons (pe_err0 T.p_TooGreat rfl) (pa_cons (pe_err0 T.p_NothingDone rfl) (pa_cons (pe_errE PySem.F.excBase_ValueError (oexV T.e_BadBook.oex) T.e_BadBook.oex.kC T.e_BadBook.iC T.e_BadBook.tI (oki_BadBook T) hr3 T.e_BadBook.b .nil pass0 rfl T.e_BadBook.m (pa_cons (pv 2) pa_nil)) (pa_cons (pe_errE PySem.F.excBase_ValueError (oexV T.e_BadStock.oex) T.e_BadStock.oex.kC T.e_BadStock.iC T.e_BadStock.tI (oki_BadStock T) hr3 T.e_BadStock.b .nil pass0 rfl T.e_BadStock.m (pa_cons (pv 2) pa_nil)) (pa_cons (pe_errE PySem.F.excBase_ValueError (oexV T.e_BadTree.oex) T.e_BadTree.oex.kC T.e_BadTree.iC T.e_BadTree.tI (oki_BadTree T) hr3 T.e_BadTree.b .nil pass0 rfl T.e_BadTree.m (pa_cons (pv 2) pa_nil)) (pa_cons (pe_errE PySem.F.excBase_ValueError (oexV T.e_BadAccount.oex) T.e_BadAccount.oex.kC T.e_BadAccount.iC T.e_BadAccount.tI (oki_BadAccount T) hr3 T.e_BadAccount.b .nil pass0 rfl T.e_BadAccount.m (pa_cons (pv 2) pa_nil)) pa_nil)))))))))
      (pss_cons (ps_set (i := 4) sc_law_every.nd rfl (Or.inl rfl) (pe_op op_cat (pv 4) (pe_lstN (pa_cons (pe_errE PySem.F.excBase_ValueError (oexV T.e_BadPrices.oex) T.e_BadPrices.oex.kC T.e_BadPrices.iC T.e_BadPrices.tI (oki_BadPrices T) hr3 T.e_BadPrices.b .nil pass0 rfl T.e_BadPrices.m (pa_cons (pv 2) pa_nil)) (pa_cons (pe_errE PySem.F.excBase_ValueError (oexV T.e_BadMade.oex) T.e_BadMade.oex.kC T.e_BadMade.iC T.e_BadMade.tI (oki_BadMade T) hr3 T.e_BadMade.b .nil pass0 rfl T.e_BadMade.m (pa_cons (pv 2) pa_nil)) (pa_cons (pe_errE PySem.F.excBase_ValueError (oexV T.e_NotGood.oex) T.e_NotGood.oex.kC T.e_NotGood.iC T.e_NotGood.tI (oki_NotGood T) hr3 T.e_NotGood.b .nil pass0 rfl T.e_NotGood.m (pa_cons (pv 3) pa_nil)) (pa_cons (pe_errE PySem.F.excBase_ValueError (oexV T.e_NoAccount.oex) T.e_NoAccount.oex.kC T.e_NoAccount.iC T.e_NoAccount.tI (oki_NoAccount T) hr3 T.e_NoAccount.b .nil pass0 rfl T.e_NoAccount.m (pa_cons (pv 3) pa_nil)) (pa_cons (pe_errE PySem.F.excBase_ValueError (oexV T.e_Pumped.oex) T.e_Pumped.oex.kC T.e_Pumped.iC T.e_Pumped.tI (oki_Pumped T) hr3 T.e_Pumped.b .nil pass0 rfl T.e_Pumped.m (pa_cons (pv 3) pa_nil)) pa_nil))))))))
      (pss_one (ps_ret (pe_op op_cat (pv 4) (pe_lstN (pa_cons (pe_errE PySem.F.excBase_ValueError (oexV T.e_BadDeed.oex) T.e_BadDeed.oex.kC T.e_BadDeed.iC T.e_BadDeed.tI (oki_BadDeed T) hr3 T.e_BadDeed.b .nil pass0 rfl T.e_BadDeed.m (pa_cons (pv 1) pa_nil)) (pa_cons (pe_errE PySem.F.excBase_ValueError (oexV T.e_BadOrder.oex) T.e_BadOrder.oex.kC T.e_BadOrder.iC T.e_BadOrder.tI (oki_BadOrder T) hr3 T.e_BadOrder.b .nil pass0 rfl T.e_BadOrder.m (pa_cons (pv 1) pa_nil)) (pa_cons (pe_errE PySem.F.excBase_ValueError (oexV T.e_BadText.oex) T.e_BadText.oex.kC T.e_BadText.iC T.e_BadText.tI (oki_BadText T) hr3 T.e_BadText.b .nil pass0 rfl T.e_BadText.m (pa_cons (pv 1) pa_nil)) (pa_cons (pe_errE PySem.F.excBase_ValueError (oexV T.e_BadAct.oex) T.e_BadAct.oex.kC T.e_BadAct.iC T.e_BadAct.tI (oki_BadAct T) hr3 T.e_BadAct.b .nil pass0 rfl T.e_BadAct.m (pa_cons (pv 0) pa_nil)) (pa_cons (pe_errE PySem.F.excBase_LookupError (oexL T.e_UnknownName.oex) T.e_UnknownName.oex.kC T.e_UnknownName.iC T.e_UnknownName.tI (oki_UnknownName T) hr3 T.e_UnknownName.b .nil pass0 rfl T.e_UnknownName.m (pa_cons (pv 3) pa_nil)) pa_nil)))))))))))), ?_⟩
  refine fun a0 h0 => ?_
  have s0 := same_new h0 (exo a0 T.p_UnlikeBooks.C none)
  refine fun a1 h1 => ?_
  have s1 := same_new h1 (exo a1 T.p_TooGreat.C none)
  refine fun a2 h2 => ?_
  have s2 := same_new h2 (exo a2 T.p_NothingDone.C none)
  refine ⟨_, rfl, (by show 1 ≤ 1000; decide), fun a3 h3 => ⟨a3, p, ys, rfl, upd_same, or_same (same_new h3 _) (or_same (s0.trans (s1.trans (s2))) hp), fun M3 t3 k3 v3 u3 => ⟨rfl, ?_⟩⟩⟩
  have s3 := mk_same h3 k3
  have v3 : ErrP M3 a3 T.e_BadBook.C ys := ⟨t3, v3, u3⟩
  clear k3 u3
  refine ⟨_, rfl, (by show 1 ≤ 1000; decide), fun a4 h4 => ⟨a4, p, ys, rfl, upd_same, or_same (same_new h4 _) (or_same (s0.trans (s1.trans (s2.trans (s3)))) hp), fun M4 t4 k4 v4 u4 => ⟨rfl, ?_⟩⟩⟩
  have s4 := mk_same h4 k4
  have v4 : ErrP M4 a4 T.e_BadStock.C ys := ⟨t4, v4, u4⟩
  clear k4 u4
  refine ⟨_, rfl, (by show 1 ≤ 1000; decide), fun a5 h5 => ⟨a5, p, ys, rfl, upd_same, or_same (same_new h5 _) (or_same (s0.trans (s1.trans (s2.trans (s3.trans (s4))))) hp), fun M5 t5 k5 v5 u5 => ⟨rfl, ?_⟩⟩⟩
  have s5 := mk_same h5 k5
  have v5 : ErrP M5 a5 T.e_BadTree.C ys := ⟨t5, v5, u5⟩
  clear k5 u5
  refine ⟨_, rfl, (by show 1 ≤ 1000; decide), fun a6 h6 => ⟨a6, p, ys, rfl, upd_same, or_same (same_new h6 _) (or_same (s0.trans (s1.trans (s2.trans (s3.trans (s4.trans (s5)))))) hp), fun M6 t6 k6 v6 u6 => ⟨rfl, ?_⟩⟩⟩
  have s6 := mk_same h6 k6
  have v6 : ErrP M6 a6 T.e_BadAccount.C ys := ⟨t6, v6, u6⟩
  clear k6 u6
  refine ⟨(by show 7 ≤ sizeLine; decide), fun q0 hq0 _ => ?_⟩
  have w0 := same_new hq0 (.lst [.ref a0, .ref a1, .ref a2, .ref a3, .ref a4, .ref a5, .ref a6])
  refine ⟨_, rfl, ⟨_, rfl, (by show 1 ≤ 1000; decide), fun a7 h7 => ⟨a7, p, ys, rfl, upd_same, or_same (same_new h7 _) (or_same (s0.trans (s1.trans (s2.trans (s3.trans (s4.trans (s5.trans (s6.trans (w0)))))))) hp), fun M7 t7 k7 v7 u7 => ⟨rfl, ?_⟩⟩⟩⟩
  have s7 := mk_same h7 k7
  have v7 : ErrP M7 a7 T.e_BadPrices.C ys := ⟨t7, v7, u7⟩
  clear k7 u7
  refine ⟨_, rfl, (by show 1 ≤ 1000; decide), fun a8 h8 => ⟨a8, p, ys, rfl, upd_same, or_same (same_new h8 _) (or_same (s0.trans (s1.trans (s2.trans (s3.trans (s4.trans (s5.trans (s6.trans (w0.trans (s7))))))))) hp), fun M8 t8 k8 v8 u8 => ⟨rfl, ?_⟩⟩⟩
  have s8 := mk_same h8 k8
  have v8 : ErrP M8 a8 T.e_BadMade.C ys := ⟨t8, v8, u8⟩
  clear k8 u8
  refine ⟨_, rfl, (by show 1 ≤ 1000; decide), fun a9 h9 => ⟨a9, _, rfl, upd_same, fun M9 k9 v9 => ⟨rfl, ?_⟩⟩⟩
  have s9 := mk_same h9 k9
  clear k9
  refine ⟨_, rfl, (by show 1 ≤ 1000; decide), fun a10 h10 => ⟨a10, _, rfl, upd_same, fun M10 k10 v10 => ⟨rfl, ?_⟩⟩⟩
  have s10 := mk_same h10 k10
  clear k10
  refine ⟨_, rfl, (by show 1 ≤ 1000; decide), fun a11 h11 => ⟨a11, _, rfl, upd_same, fun M11 k11 v11 => ⟨rfl, ?_⟩⟩⟩
  have s11 := mk_same h11 k11
  clear k11
  refine ⟨(by show 5 ≤ sizeLine; decide), fun q1 hq1 _ => ?_⟩
  have w1 := same_new hq1 (.lst [.ref a7, .ref a8, .ref a9, .ref a10, .ref a11])
  refine ⟨q0, q1, _, _, rfl, rfl, w1 _ _ (s11 _ _ (s10 _ _ (s9 _ _ (s8 _ _ (s7 _ _ (upd_same)))))), upd_same, (by show 12 ≤ sizeLine; decide), fun r1 hr1 => ?_⟩
  have z1 := same_new hr1 (.lst [.ref a0, .ref a1, .ref a2, .ref a3, .ref a4, .ref a5, .ref a6, .ref a7, .ref a8, .ref a9, .ref a10, .ref a11])
  refine ⟨_, rfl, ⟨_, rfl, (by show 1 ≤ 1000; decide), fun a12 h12 => ⟨a12, _, rfl, upd_same, fun M12 k12 v12 => ⟨rfl, ?_⟩⟩⟩⟩
  have s12 := mk_same h12 k12
  clear k12
  refine ⟨_, rfl, (by show 1 ≤ 1000; decide), fun a13 h13 => ⟨a13, _, rfl, upd_same, fun M13 k13 v13 => ⟨rfl, ?_⟩⟩⟩
  have s13 := mk_same h13 k13
  clear k13
  refine ⟨_, rfl, (by show 1 ≤ 1000; decide), fun a14 h14 => ⟨a14, _, rfl, upd_same, fun M14 k14 v14 => ⟨rfl, ?_⟩⟩⟩
  have s14 := mk_same h14 k14
  clear k14
  refine ⟨_, rfl, (by show 1 ≤ 1000; decide), fun a15 h15 => ⟨a15, _, rfl, upd_same, fun M15 k15 v15 => ⟨rfl, ?_⟩⟩⟩
  have s15 := mk_same h15 k15
  clear k15
  refine ⟨_, rfl, (by show 1 ≤ 1000; decide), fun a16 h16 => ⟨a16, _, rfl, upd_same, fun M16 k16 v16 => ⟨rfl, ?_⟩⟩⟩
  have s16 := mk_same h16 k16
  clear k16
  refine ⟨(by show 5 ≤ sizeLine; decide), fun q2 hq2 _ => ?_⟩
  have w2 := same_new hq2 (.lst [.ref a12, .ref a13, .ref a14, .ref a15, .ref a16])
  refine ⟨r1, q2, _, _, rfl, rfl, w2 _ _ (s16 _ _ (s15 _ _ (s14 _ _ (s13 _ _ (s12 _ _ (upd_same)))))), upd_same, (by show 17 ≤ sizeLine; decide), fun r2 hr2 => ?_⟩
  have z2 := same_new hr2 (.lst [.ref a0, .ref a1, .ref a2, .ref a3, .ref a4, .ref a5, .ref a6, .ref a7, .ref a8, .ref a9, .ref a10, .ref a11, .ref a12, .ref a13, .ref a14, .ref a15, .ref a16])
  exact k _ _ _ _ _ _ _ _ _ _ _ _ _ _ _ _ _ _ _ (s0.trans (s1.trans (s2.trans (s3.trans (s4.trans (s5.trans (s6.trans (w0.trans (s7.trans (s8.trans (s9.trans (s10.trans (s11.trans (w1.trans (z1.trans (s12.trans (s13.trans (s14.trans (s15.trans (s16.trans (w2.trans (z2)))))))))))))))))))))) upd_same ⟨(ErrA.same (s1.trans (s2.trans (s3.trans (s4.trans (s5.trans (s6.trans (w0.trans (s7.trans (s8.trans (s9.trans (s10.trans (s11.trans (w1.trans (z1.trans (s12.trans (s13.trans (s14.trans (s15.trans (s16.trans (w2.trans (z2))))))))))))))))))))) (.inl upd_same)), (ErrA.same (s2.trans (s3.trans (s4.trans (s5.trans (s6.trans (w0.trans (s7.trans (s8.trans (s9.trans (s10.trans (s11.trans (w1.trans (z1.trans (s12.trans (s13.trans (s14.trans (s15.trans (s16.trans (w2.trans (z2)))))))))))))))))))) (.inl upd_same)), (ErrA.same (s3.trans (s4.trans (s5.trans (s6.trans (w0.trans (s7.trans (s8.trans (s9.trans (s10.trans (s11.trans (w1.trans (z1.trans (s12.trans (s13.trans (s14.trans (s15.trans (s16.trans (w2.trans (z2))))))))))))))))))) (.inl upd_same)), v3.same (s4.trans (s5.trans (s6.trans (w0.trans (s7.trans (s8.trans (s9.trans (s10.trans (s11.trans (w1.trans (z1.trans (s12.trans (s13.trans (s14.trans (s15.trans (s16.trans (w2.trans (z2)))))))))))))))))), v4.same (s5.trans (s6.trans (w0.trans (s7.trans (s8.trans (s9.trans (s10.trans (s11.trans (w1.trans (z1.trans (s12.trans (s13.trans (s14.trans (s15.trans (s16.trans (w2.trans (z2))))))))))))))))), v5.same (s6.trans (w0.trans (s7.trans (s8.trans (s9.trans (s10.trans (s11.trans (w1.trans (z1.trans (s12.trans (s13.trans (s14.trans (s15.trans (s16.trans (w2.trans (z2)))))))))))))))), v6.same (w0.trans (s7.trans (s8.trans (s9.trans (s10.trans (s11.trans (w1.trans (z1.trans (s12.trans (s13.trans (s14.trans (s15.trans (s16.trans (w2.trans (z2))))))))))))))), v7.same (s8.trans (s9.trans (s10.trans (s11.trans (w1.trans (z1.trans (s12.trans (s13.trans (s14.trans (s15.trans (s16.trans (w2.trans (z2))))))))))))), v8.same (s9.trans (s10.trans (s11.trans (w1.trans (z1.trans (s12.trans (s13.trans (s14.trans (s15.trans (s16.trans (w2.trans (z2)))))))))))), v9.same (s10.trans (s11.trans (w1.trans (z1.trans (s12.trans (s13.trans (s14.trans (s15.trans (s16.trans (w2.trans (z2))))))))))), v10.same (s11.trans (w1.trans (z1.trans (s12.trans (s13.trans (s14.trans (s15.trans (s16.trans (w2.trans (z2)))))))))), v11.same (w1.trans (z1.trans (s12.trans (s13.trans (s14.trans (s15.trans (s16.trans (w2.trans (z2))))))))), v12.same (s13.trans (s14.trans (s15.trans (s16.trans (w2.trans (z2)))))), v13.same (s14.trans (s15.trans (s16.trans (w2.trans (z2))))), v14.same (s15.trans (s16.trans (w2.trans (z2)))), v15.same (s16.trans (w2.trans (z2))), v16.same (w2.trans (z2))⟩
end
end My

namespace My
open PySem PySem.Spec PyProof.Rows L2
structure Fit (d : PyData) : Prop where
  sh : d.showable = true
  dp : d.depth ≤ 60
  sz : d.shown.length ≤ sizeLine
section
variable {P : Program} {w : World} {K : PySem.W.Frag} {mg : Str → Option Value} {base : Heap}
def spKept (T : Tx K mg) : Sp := fun vs H Q _ => ∃ (l : Addr) (x n o : V) (p : Addr) (ys : List V) (dx dn dd : PyData) (ds : List PyData) (a0 a1 a2 a3 a4 a5 a6 a7 a8 a9 a10 a11 a12 a13 a14 a15 a16 : Addr), vs = [.ref l, x, n, .ref p, o] ∧ H l = some (.lst [.ref a0, .ref a1, .ref a2, .ref a3, .ref a4, .ref a5, .ref a6, .ref a7, .ref a8, .ref a9, .ref a10, .ref a11, .ref a12, .ref a13, .ref a14, .ref a15, .ref a16]) ∧ (H p = some (.lst ys) ∨ H p = some (.tup ys)) ∧ Ev T H x n o ys a0 a1 a2 a3 a4 a5 a6 a7 a8 a9 a10 a11 a12 a13 a14 a15 a16 ∧
  Dz H x dx ∧ Dz H n dn ∧ DzAll H ys ds ∧ Dz H o dd ∧ Fit dx ∧ Fit (.list [dn, dn, dn]) ∧ Fit (.list [.tuple ds, .tuple ds, .tuple ds, .tuple ds, .tuple ds, .tuple ds]) ∧ Fit (.list [dd, dd, dd, dd]) ∧ ∀ H', Same H H' → Q (.bl true) H'
theorem ok_kept (T : Tx K mg) : FnG P w K mg base 3 T.a_law_kept T.fd_law_kept ["_law_every_here", "_law_word", "_law_number", "_law_some", "_law_other"] (spKept T) := by
  refine FnG.of T.F_law_kept sc_law_kept (fun vs H Q E h => ?_) (fun cdv A outer st H vs Q E hg hr h => ?_)
  · obtain ⟨l, x, n, o, p, ys, dx, dn, dd, ds, a0, a1, a2, a3, a4, a5, a6, a7, a8, a9, a10, a11, a12, a13, a14, a15, a16, rfl, _⟩ := h
    rfl
  obtain ⟨l, x, n, o, p, ys, dx, dn, dd, ds, a0, a1, a2, a3, a4, a5, a6, a7, a8, a9, a10, a11, a12, a13, a14, a15, a16, rfl, hl, hp, ev, zx, zn, zs, zo, fx, fn, fs, fo, k⟩ := h
  obtain ⟨t3, v3, u3⟩ := ev.e3
  obtain ⟨t4, v4, u4⟩ := ev.e4
  obtain ⟨t5, v5, u5⟩ := ev.e5
  obtain ⟨t6, v6, u6⟩ := ev.e6
  obtain ⟨t7, v7, u7⟩ := ev.e7
  obtain ⟨t8, v8, u8⟩ := ev.e8
  have hu64 := hr.units
  refine ⟨_, ((pss_cons (ps_set (i := 5) sc_law_kept.nd rfl (Or.inl rfl) (pe_lstN (pa_cons (pe_errF (pe_ix (show IxR _ (rIxL K) from ix_list) (pv 0) pe_int (fun _ _ => rfl))) (pa_cons (pe_errF (pe_ix (show IxR _ (rIxL K) from ix_list) (pv 0) pe_int (fun _ _ => rfl))) (pa_cons (pe_errF (pe_ix (show IxR _ (rIxL K) from ix_list) (pv 0) pe_int (fun _ _ => rfl))) (pa_cons (pe_errF (pe_ix (show IxR _ (rIxL K) from ix_list) (pv 0) pe_int (fun _ _ => rfl))) (pa_cons (pe_errF (pe_ix (show IxR _ (rIxL K) from ix_list) (pv 0) pe_int (fun _ _ => rfl))) (pa_cons (pe_errF (pe_ix (show IxR _ (rIxL K) from ix_list) (pv 0) pe_int (fun _ _ => rfl))) pa_nil))))))))
      (pss_cons (ps_set (i := 6) sc_law_kept.nd rfl (Or.inl rfl) (pe_lstN (pa_cons (pe_errF (pe_ix (show IxR _ (rIxL K) from ix_list) (pv 0) pe_int (fun _ _ => rfl))) (pa_cons (pe_errF (pe_ix (show IxR _ (rIxL K) from ix_list) (pv 0) pe_int (fun _ _ => rfl))) (pa_cons (pe_errF (pe_ix (show IxR _ (rIxL K) from ix_list) (pv 0) pe_int (fun _ _ => rfl))) pa_nil)))))
      (pss_cons (ps_if (PW.pt (pw_or (pt_cmpR op_ne (pe_callB (call_repr_Z hg hu64) (by rfl) T.n_repr (by decide +kernel) (pa_cons (pv 5) pa_nil)) (pe_callB (call_repr_Z hg hu64) (by rfl) T.n_repr (by decide +kernel) (pa_cons (pe_op op_repN (pe_lstN (pa_cons (pe_callTy (show CallR _ (.type "tuple") (rTupOf K) from call_tupK) (by rfl) T.n_tuple (by decide +kernel) (pa_cons (pv 3) pa_nil)) pa_nil)) pe_int) pa_nil)) (nomark _)) (pw_or1 (pt_cmpR op_ne (pe_callB (call_repr_Z hg hu64) (by rfl) T.n_repr (by decide +kernel) (pa_cons (pv 6) pa_nil)) (pe_callB (call_repr_Z hg hu64) (by rfl) T.n_repr (by decide +kernel) (pa_cons (pe_op op_repN (pe_lstN (pa_cons (pv 2) pa_nil)) pe_int) pa_nil)) (nomark _)))))
        (pss_one (ps_ret pe_bl))
        pss_nil)
      (pss_cons (ps_set (i := 7) sc_law_kept.nd rfl (Or.inl rfl) (pe_lstN (pa_cons (pe_errF (pe_ix (show IxR _ (rIxL K) from ix_list) (pv 0) pe_int (fun _ _ => rfl))) (pa_cons (pe_errF (pe_ix (show IxR _ (rIxL K) from ix_list) (pv 0) pe_int (fun _ _ => rfl))) (pa_cons (pe_errF (pe_ix (show IxR _ (rIxL K) from ix_list) (pv 0) pe_int (fun _ _ => rfl))) (pa_cons (pe_errF (pe_ix (show IxR _ (rIxL K) from ix_list) (pv 0) pe_int (fun _ _ => rfl))) pa_nil))))))
      (pss_one (ps_ret (pe_and (pe_cmpR op_eq (pe_callB (call_repr_Z hg hu64) (by rfl) T.n_repr (by decide +kernel) (pa_cons (pv 7) pa_nil)) (pe_callB (call_repr_Z hg hu64) (by rfl) T.n_repr (by decide +kernel) (pa_cons (pe_op op_repN (pe_lstN (pa_cons (pv 4) pa_nil)) pe_int) pa_nil)) (nomark _)) (pe_one (pe_cmpR op_eq (pe_callB (call_repr_Z hg hu64) (by rfl) T.n_repr (by decide +kernel) (pa_cons (pe_errF (pe_ix (show IxR _ (rIxL K) from ix_list) (pv 0) pe_int (fun _ _ => rfl))) pa_nil)) (pe_callB (call_repr_Z hg hu64) (by rfl) T.n_repr (by decide +kernel) (pa_cons (pv 1) pa_nil)) (nomark _))))))))))), ?_⟩
  refine ⟨_, rfl, l, _, 3, _, rfl, rfl, SqL.of (hl), rfl, a3, _, .ref t3, rfl, T.e_BadBook.xf, T.e_BadBook.noF, v3, ⟨_, rfl, l, _, 4, _, rfl, rfl, SqL.of (hl), rfl, a4, _, .ref t4, rfl, T.e_BadStock.xf, T.e_BadStock.noF, v4, ⟨_, rfl, l, _, 5, _, rfl, rfl, SqL.of (hl), rfl, a5, _, .ref t5, rfl, T.e_BadTree.xf, T.e_BadTree.noF, v5, ⟨_, rfl, l, _, 6, _, rfl, rfl, SqL.of (hl), rfl, a6, _, .ref t6, rfl, T.e_BadAccount.xf, T.e_BadAccount.noF, v6, ⟨_, rfl, l, _, 7, _, rfl, rfl, SqL.of (hl), rfl, a7, _, .ref t7, rfl, T.e_BadPrices.xf, T.e_BadPrices.noF, v7, ⟨_, rfl, l, _, 8, _, rfl, rfl, SqL.of (hl), rfl, a8, _, .ref t8, rfl, T.e_BadMade.xf, T.e_BadMade.noF, v8, ⟨(by show 6 ≤ sizeLine; decide), fun q0 hq0 b0 => ?_⟩⟩⟩⟩⟩⟩⟩
  have w0 := same_new hq0 (.lst [.ref t3, .ref t4, .ref t5, .ref t6, .ref t7, .ref t8])
  have z0 : Dz (L2.upd H q0 (.lst [.ref t3, .ref t4, .ref t5, .ref t6, .ref t7, .ref t8])) (.ref q0) (.list [.tuple ds, .tuple ds, .tuple ds, .tuple ds, .tuple ds, .tuple ds]) :=
    .lst upd_same b0 (.cons (.tup (w0 _ _ u3) (zs.same w0)) (.cons (.tup (w0 _ _ u4) (zs.same w0)) (.cons (.tup (w0 _ _ u5) (zs.same w0)) (.cons (.tup (w0 _ _ u6) (zs.same w0)) (.cons (.tup (w0 _ _ u7) (zs.same w0)) (.cons (.tup (w0 _ _ u8) (zs.same w0)) .nil))))))
  refine ⟨_, rfl, l, _, 12, _, rfl, rfl, SqL.of (w0 _ _ hl), rfl, a12, _, n, rfl, T.e_BadDeed.xf, T.e_BadDeed.noF, ev.e12.same w0, ⟨_, rfl, l, _, 13, _, rfl, rfl, SqL.of (w0 _ _ hl), rfl, a13, _, n, rfl, T.e_BadOrder.xf, T.e_BadOrder.noF, ev.e13.same w0, ⟨_, rfl, l, _, 14, _, rfl, rfl, SqL.of (w0 _ _ hl), rfl, a14, _, n, rfl, T.e_BadText.xf, T.e_BadText.noF, ev.e14.same w0, ⟨(by show 3 ≤ sizeLine; decide), fun q1 hq1 b1 => ?_⟩⟩⟩⟩
  have w1 := w0.trans (same_new hq1 (.lst [n, n, n]))
  have z0 := z0.same (same_new hq1 (.lst [n, n, n]))
  have z1 : Dz (L2.upd (L2.upd H q0 (.lst [.ref t3, .ref t4, .ref t5, .ref t6, .ref t7, .ref t8])) q1 (.lst [n, n, n])) (.ref q1) (.list [dn, dn, dn]) :=
    .lst upd_same b1 (.cons (zn.same w1) (.cons (zn.same w1) (.cons (zn.same w1) .nil)))
  generalize L2.upd (L2.upd H q0 (.lst [.ref t3, .ref t4, .ref t5, .ref t6, .ref t7, .ref t8])) q1 (.lst [n, n, n]) = M at w1 z0 z1 ⊢
  refine ⟨_, rfl, _, _, rfl, z0, fs.sh, fs.dp, fs.sz, ⟨_, rfl, p, ys, rfl, ?_⟩⟩
  have hpM := or_same w1 hp
  rcases hpM with e | e
  case' inl =>
    refine .inl ⟨SqL.of e, fun t ht => ?_⟩
    have wt := same_new ht (.tup ys)
    have gt : L2.upd M t (.tup ys) t = some (.tup ys) := upd_same
    generalize L2.upd M t (.tup ys) = M' at wt gt ⊢
  case' inr =>
    refine .inr ⟨SqT.of e, ?_⟩
    obtain ⟨M', hM⟩ : ∃ M' : Hp, M' = M := ⟨_, rfl⟩
    have wt : Same M M' := fun _ _ z => by rw [hM]; exact z
    rw [← hM] at e ⊢
    clear hM
    obtain ⟨t, ht⟩ : ∃ t : Addr, t = p := ⟨_, rfl⟩
    subst ht
    have gt := e
  all_goals
    have W := w1.trans wt
    have z1 := z1.same wt
    refine ⟨(by show 1 ≤ sizeLine; decide), fun q2 hq2 b2 => ⟨q2, 6, _, rfl, rfl, upd_same, by decide, by decide, (by show 6 ≤ sizeLine; decide), fun q3 hq3 b3 => ?_⟩⟩
    have w2 := (same_new hq2 (.lst [.ref t])).trans (same_new hq3 (.lst [.ref t, .ref t, .ref t, .ref t, .ref t, .ref t]))
    have z2 : Dz (L2.upd (L2.upd M' q2 (.lst [.ref t])) q3 (.lst [.ref t, .ref t, .ref t, .ref t, .ref t, .ref t])) (.ref q3) (.list [.tuple ds, .tuple ds, .tuple ds, .tuple ds, .tuple ds, .tuple ds]) := by
      have zt : Dz (L2.upd (L2.upd M' q2 (.lst [.ref t])) q3 (.lst [.ref t, .ref t, .ref t, .ref t, .ref t, .ref t])) (.ref t) (.tuple ds) := .tup (w2 _ _ gt) (zs.same (W.trans w2))
      exact .lst upd_same b3 (.cons zt (.cons zt (.cons zt (.cons zt (.cons zt (.cons zt .nil))))))
    have W2 := W.trans w2
    have z1 := z1.same w2
    refine ⟨_, _, rfl, z2, fs.sh, fs.dp, fs.sz, rfl, _, rfl, ?_⟩
    refine iteN (fun z => absurd rfl z) (fun _ => ?_)
    rw [show (List.replicate (Int.toNat 6) [V.ref t]).flatten = [.ref t, .ref t, .ref t, .ref t, .ref t, .ref t] from rfl]
    generalize L2.upd (L2.upd M' q2 (.lst [.ref t])) q3 (.lst [.ref t, .ref t, .ref t, .ref t, .ref t, .ref t]) = N at W2 z1 ⊢
    refine ⟨_, rfl, _, _, rfl, z1, fn.sh, fn.dp, fn.sz, ⟨_, rfl, (by show 1 ≤ sizeLine; decide), fun q4 hq4 b4 => ⟨q4, 3, _, rfl, rfl, upd_same, by decide, by decide, (by show 3 ≤ sizeLine; decide), fun q5 hq5 b5 => ?_⟩⟩⟩
    have w3 := (same_new hq4 (.lst [n])).trans (same_new hq5 (.lst [n, n, n]))
    have W3 := W2.trans w3
    have z3 : Dz (L2.upd (L2.upd N q4 (.lst [n])) q5 (.lst [n, n, n])) (.ref q5) (.list [dn, dn, dn]) := .lst upd_same b5 (.cons (zn.same W3) (.cons (zn.same W3) (.cons (zn.same W3) .nil)))
    refine ⟨_, _, rfl, z3, fn.sh, fn.dp, fn.sz, rfl, _, rfl, ?_⟩
    refine iteN (fun z => absurd rfl z) (fun _ => ?_)
    clear z3 z2 z0 w3 w2
    rw [show (List.replicate (Int.toNat 3) [n]).flatten = [n, n, n] from rfl]
    generalize L2.upd (L2.upd N q4 (.lst [n])) q5 (.lst [n, n, n]) = N' at W3 ⊢
    refine ⟨_, rfl, l, _, 9, _, rfl, rfl, SqL.of (W3 _ _ hl), rfl, a9, _, o, rfl, T.e_NotGood.xf, T.e_NotGood.noF, ev.e9.same W3, ⟨_, rfl, l, _, 10, _, rfl, rfl, SqL.of (W3 _ _ hl), rfl, a10, _, o, rfl, T.e_NoAccount.xf, T.e_NoAccount.noF, ev.e10.same W3, ⟨_, rfl, l, _, 11, _, rfl, rfl, SqL.of (W3 _ _ hl), rfl, a11, _, o, rfl, T.e_Pumped.xf, T.e_Pumped.noF, ev.e11.same W3, ⟨_, rfl, l, _, 16, _, rfl, rfl, SqL.of (W3 _ _ hl), rfl, a16, _, o, rfl, T.e_UnknownName.xf, T.e_UnknownName.noF, ev.e16.same W3, ⟨(by show 4 ≤ sizeLine; decide), fun q6 hq6 b6 => ?_⟩⟩⟩⟩⟩
    have w4 := same_new hq6 (.lst [o, o, o, o])
    have W4 := W3.trans w4
    have z4 : Dz (L2.upd N' q6 (.lst [o, o, o, o])) (.ref q6) (.list [dd, dd, dd, dd]) := .lst upd_same b6 (.cons (zo.same W4) (.cons (zo.same W4) (.cons (zo.same W4) (.cons (zo.same W4) .nil))))
    refine ⟨_, rfl, _, _, rfl, z4, fo.sh, fo.dp, fo.sz, ⟨_, rfl, (by show 1 ≤ sizeLine; decide), fun q7 hq7 b7 => ⟨q7, 4, _, rfl, rfl, upd_same, by decide, by decide, (by show 4 ≤ sizeLine; decide), fun q8 hq8 b8 => ?_⟩⟩⟩
    have w5 := (same_new hq7 (.lst [o])).trans (same_new hq8 (.lst [o, o, o, o]))
    have W5 := W4.trans w5
    have z5 : Dz (L2.upd (L2.upd (L2.upd N' q6 (.lst [o, o, o, o])) q7 (.lst [o])) q8 (.lst [o, o, o, o])) (.ref q8) (.list [dd, dd, dd, dd]) := .lst upd_same b8 (.cons (zo.same W5) (.cons (zo.same W5) (.cons (zo.same W5) (.cons (zo.same W5) .nil))))
    refine ⟨_, _, rfl, z5, fo.sh, fo.dp, fo.sz, rfl, _, rfl, iteD (fun _ => ?_) (fun z => absurd rfl z)⟩
    refine ⟨_, rfl, l, _, 15, _, rfl, rfl, SqL.of (W5 _ _ hl), rfl, a15, _, x, rfl, T.e_BadAct.xf, T.e_BadAct.noF, ev.e15.same W5, ⟨_, _, rfl, zx.same W5, fx.sh, fx.dp, fx.sz, ⟨_, rfl, _, _, rfl, zx.same W5, fx.sh, fx.dp, fx.sz, rfl, ?_⟩⟩⟩
    rw [decide_eq_true rfl]
    exact k _ W5
end
end My

namespace My
open PySem PySem.Spec PyProof.Rows L2
/-! ### what is drawn -/
def GREAT : Int := 1000000000000000000000000000000
def WORDS : List PyData := [.str "", .str "x", .str "no such name", .none, .str (Txt.mul "x" 100), .tuple [.str "a"], .int 0, .list [.str "a", .dict []]]
def NUMS : List PyData := [.int 0, .int 1, .int 7, .int 200, .int GREAT, .int (-1), .none]
def SOMES : List PyData := [.list [.str "a", .str "b"], .list [], .tuple [.str "a"], .list [.int 0, .int 1, .int 0], .tuple [.tuple [.str "x", .str "y"]], .list [.list []]]
def OTHERS : List PyData := [.tuple [], .tuple [.str "square", .int 0], .list [.int 0, .int 1], .none, .str "path", .dict [(.str "a", .int 0)], .tuple [.str "a", .str "b"], .bool true]
def fitB (d : PyData) : Bool := d.showable && (decide (d.depth ≤ 60) && decide (d.shown.length ≤ sizeLine))
theorem fit_of {d : PyData} (h : fitB d = true) : Fit d := by
  unfold fitB at h
  simp only [Bool.and_eq_true, decide_eq_true_iff] at h
  exact ⟨h.1, h.2.1, h.2.2⟩
def itemsD : PyData → List PyData
  | .list ds => ds
  | .tuple ds => ds
  | _ => []
def seqD : PyData → Bool
  | .list _ => true
  | .tuple _ => true
  | _ => false
theorem fit_words : ∀ d ∈ WORDS, Fit d := fun d h => fit_of ((List.all_eq_true.mp (by decide +kernel : WORDS.all fitB = true)) d h)
theorem fit_nums : ∀ d ∈ NUMS, Fit (.list [d, d, d]) := fun d h => fit_of ((List.all_eq_true.mp (by decide +kernel : (NUMS.all fun d => fitB (.list [d, d, d])) = true)) d h)
theorem fit_others : ∀ d ∈ OTHERS, Fit (.list [d, d, d, d]) := fun d h => fit_of ((List.all_eq_true.mp (by decide +kernel : (OTHERS.all fun d => fitB (.list [d, d, d, d])) = true)) d h)
def sixD (ds : List PyData) : PyData := .list [.tuple ds, .tuple ds, .tuple ds, .tuple ds, .tuple ds, .tuple ds]
theorem fit_somes : ∀ d ∈ SOMES, seqD d = true ∧ Fit (sixD (itemsD d)) := fun d h => by
  have q := (List.all_eq_true.mp (by decide +kernel : (SOMES.all fun d => seqD d && fitB (sixD (itemsD d))) = true)) d h
  exact ⟨(Bool.and_eq_true_iff.mp q).1, fit_of (Bool.and_eq_true_iff.mp q).2⟩
theorem Dz.seq {H : Hp} {v : V} {d : PyData} (h : Dz H v d) (q : seqD d = true) : ∃ (p : Addr) (ys : List V), v = .ref p ∧ (H p = some (.lst ys) ∨ H p = some (.tup ys)) ∧ DzAll H ys (itemsD d) := by
  cases h with
  | lst e _ hs => exact ⟨_, _, rfl, .inl e, hs⟩
  | tup e hs => exact ⟨_, _, rfl, .inr e, hs⟩
  | non => cases q
  | bl _ => cases q
  | int _ => cases q
  | str _ => cases q
  | dct _ _ => cases q
theorem one_of {H : Hp} {xs : List V} {ds : List PyData} {n : Nat} (h : DzAll H xs ds) (hn : ds.length = n) {i : Int} (h0 : 0 ≤ i) (h1 : i < n) : ∃ (v : V) (d : PyData), atI xs i = some v ∧ d ∈ ds ∧ Dz H v d := by
  obtain ⟨j, rfl⟩ : ∃ j : Nat, i = (j : Int) := ⟨i.toNat, by omega⟩
  have hj : j < ds.length := by omega
  obtain ⟨v, e1, e2⟩ := h.get (List.getElem?_eq_getElem hj)
  exact ⟨v, _, atI_nat e1, List.getElem_mem hj, e2⟩
section
variable {s c p : Addr} {H : Hp} {xs : List V} {ds : List PyData}
theorem dz_tup (S : Src H s c) (hp : H p = none) (h : DzAll (cutH s c H) xs ds) : Dz (cutH s c (L2.upd H p (.tup xs))) (.ref p) (.tuple ds) := .tup (cut_in (S.ne_none hp) upd_same) (h.same (cut_of (same_new hp _)))
theorem dz_lst (S : Src H s c) (hp : H p = none) (big : sysModules < p) (h : DzAll (cutH s c H) xs ds) : Dz (cutH s c (L2.upd H p (.lst xs))) (.ref p) (.list ds) := .lst (cut_in (S.ne_none hp) upd_same) big (h.same (cut_of (same_new hp _)))
theorem dz_dct {kvs : List (Key × V)} {es : List (PyData × PyData)} (S : Src H s c) (hp : H p = none) (x : DzE kvs es) : Dz (cutH s c (L2.upd H p (.dK kvs))) (.ref p) (.dict es) := .dct (cut_in (S.ne_none hp) upd_same) x
end
def kindsD (i : Nat) : PyData := .list (((List.range 17).map fun j => j == i).map PyData.bool)
def basesD (i : Nat) : PyData := .list ([decide (i < 16), decide (i < 16), i == 16, i == 16, false].map PyData.bool)
theorem dp_bools {K : PySem.W.Frag} {H : Hp} : ∀ bs : List Bool, DpAll K H (bs.map V.bl) (bs.map PyData.bool)
  | [] => .nil
  | b :: bs => .cons (.bl b) (dp_bools bs)
theorem dp_kinds {K : PySem.W.Frag} {H : Hp} {l : Addr} {i : Nat} (h : H l = some (.lst (kindsV i))) : Dp K H (.ref l) (kindsD i) := by
  have e : kindsV i = ((List.range 17).map fun j => j == i).map V.bl := by unfold kindsV; rw [List.map_map]; rfl
  rw [e] at h
  exact .lst (SqL.of h) (dp_bools _)
theorem dp_bases {K : PySem.W.Frag} {H : Hp} {l : Addr} {i : Nat} (h : H l = some (.lst (basesV i))) : Dp K H (.ref l) (basesD i) := .lst (SqL.of h) (dp_bools [decide (i < 16), decide (i < 16), i == 16, i == 16, false])
theorem sh_kinds {i : Nat} (hi : i < 17) : SeqAt.shaped (kindsD i) = true := by
  have all : ∀ k : Fin 17, SeqAt.shaped (kindsD k.val) = true := by decide +kernel
  exact all ⟨i, hi⟩
theorem sh_bases {i : Nat} (hi : i < 17) : SeqAt.shaped (basesD i) = true := by
  have all : ∀ k : Fin 17, SeqAt.shaped (basesD k.val) = true := by decide +kernel
  exact all ⟨i, hi⟩
theorem eq_ij {i j : Nat} : decide (V.int (0 + (i : Int)) = V.int (0 + (j : Int))) = (i == j) := by
  rw [dec_int, Int.zero_add, Int.zero_add]
  by_cases h : i = j
  · subst h
    rw [beq_self_eq_true, beq_self_eq_true]
  · rw [beq_eq_false_iff_ne.mpr h, beq_eq_false_iff_ne.mpr (by omega)]
theorem eq_i16 {i : Nat} : decide (V.int (0 + (i : Int)) = V.int 16) = (i == 16) := by
  have q := eq_ij (i := i) (j := 16)
  exact q
theorem lt_i16 {i : Nat} : decide (0 + (i : Int) < 16) = decide (i < 16) := decide_eq_decide.mpr (by omega)
theorem kinds_get {i j : Nat} (hj : j < 17) : (kindsV i)[j]? = some (V.bl (decide (V.int (0 + (j : Int)) = V.int (0 + (i : Int))))) := by
  unfold kindsV
  rw [List.getElem?_map, List.getElem?_range hj, eq_ij]
  rfl
theorem mk30 : MulOk "0" 30 := ⟨by decide, fun _ _ => by decide +kernel, fun _ _ => by decide +kernel⟩
theorem mk100 : MulOk "x" 100 := ⟨by decide, fun _ _ => by decide +kernel, fun _ _ => by decide +kernel⟩
theorem great_is : PySem.intText? (("1" : Str) ++ Txt.mul "0" 30) = some GREAT := by decide +kernel
end My

namespace My
open PySem PySem.Spec PyProof.Rows L2
section
variable {P : Program} {w : World} {K : PySem.W.Frag} {mg : Str → Option Value} {base : Heap}
theorem ok_law (T : Tx K mg) : FnG P w K mg base 30 T.a_law T.fd_law ["_law_script"] (spLaw K) := by
  refine FnG.of T.F_law sc_law (fun vs H Q E h => ?_) (fun cdv A outer st H vs Q E hg hr h => ?_)
  · obtain ⟨a, ns, rfl, _⟩ := h
    rfl
  obtain ⟨a0, ns0, rfl, hS0, hl0, k⟩ := h
  have G_law_source : FnOk P w K mg base CX0 1 T.a_law_source T.fd_law_source ["_law_script"] (spSource K) := ok_source T
  have G_law_pick : FnOk P w K mg base CX0 1 T.a_law_pick T.fd_law_pick ["_law_source_here", "_law_many"] spPick := ok_pick T
  have G_law_kinds : FnOk P w K mg base CX0 2 T.a_law_kinds T.fd_law_kinds ["_law_e"] (spKinds T) := ok_kinds T
  have G_law_bases : FnOk P w K mg base CX0 2 T.a_law_bases T.fd_law_bases ["_law_e"] (spBases T) := ok_bases T
  have G_law_every : FnOk P w K mg base CX0 4 T.a_law_every T.fd_law_every ["_law_word", "_law_number", "_law_some", "_law_other"] (spEvery T) := ok_every T
  have G_law_kept : FnG P w K mg base 3 T.a_law_kept T.fd_law_kept ["_law_every_here", "_law_word", "_law_number", "_law_some", "_law_other"] (spKept T) := ok_kept T
  have hr29 : Room 29 _ := hr
  have hr_law_source : Room 1 _ := hr.mono (by decide)
  have hr_law_pick : Room 1 _ := hr.mono (by decide)
  have hr_law_kinds : Room 2 _ := hr.mono (by decide)
  have hr_law_bases : Room 2 _ := hr.mono (by decide)
  have hr_law_every : Room 4 _ := hr.mono (by decide)
  have hr_law_kept : Room 3 _ := hr.mono (by decide)
  have hu := hu_of hr
  refine ⟨_, ((pss_cons (ps_set (i := 1) sc_law.nd rfl (Or.inl rfl) (pe_call G_law_source hr_law_source rfl T.m_law_source T.F_law_source.kp T.b_law_source .nil pass0 (pa_cons (pv 0) pa_nil)))
      (pss_cons (ps_set (i := 2) sc_law.nd rfl (Or.inl rfl) (pe_callTy call_int_str (by rfl) T.n_int (by decide +kernel) (pa_cons (pe_op op_add_str pe_str (pe_op op_repS pe_str pe_int)) pa_nil)))
      (pss_cons (ps_for PassesOwn.never rfl (pi_range1 rfl T.n_range (pa_cons pe_int pa_nil)) (pg_name (i := 3) sc_law.nd rfl (Or.inl rfl))
        (pss_cons (ps_set (i := 4) sc_law.nd rfl (Or.inl rfl) (pe_ix (show IxR _ (rIxL K) from ix_list) (pe_lstN (pa_cons pe_str (pa_cons pe_str (pa_cons pe_str (pa_cons pe_non (pa_cons (pe_op op_repS pe_str pe_int) (pa_cons (pe_tup (pa_cons pe_str pa_nil)) (pa_cons pe_int (pa_cons (pe_lstN (pa_cons pe_str (pa_cons pe_dnewK pa_nil))) pa_nil))))))))) (pe_call G_law_pick hr_law_pick rfl T.m_law_pick T.F_law_pick.kp T.b_law_pick .nil pass0 (pa_cons (pv 1) (pa_cons pe_int pa_nil))) (fun _ _ => rfl)))
      (pss_cons (ps_set (i := 5) sc_law.nd rfl (Or.inl rfl) (pe_ix (show IxR _ (rIxL K) from ix_list) (pe_lstN (pa_cons pe_int (pa_cons pe_int (pa_cons pe_int (pa_cons pe_int (pa_cons (pv 2) (pa_cons (pe_un un_neg pe_int) (pa_cons pe_non pa_nil)))))))) (pe_call G_law_pick hr_law_pick rfl T.m_law_pick T.F_law_pick.kp T.b_law_pick .nil pass0 (pa_cons (pv 1) (pa_cons pe_int pa_nil))) (fun _ _ => rfl)))
      (pss_cons (ps_set (i := 6) sc_law.nd rfl (Or.inl rfl) (pe_ix (show IxR _ (rIxL K) from ix_list) (pe_lstN (pa_cons (pe_lstN (pa_cons pe_str (pa_cons pe_str pa_nil))) (pa_cons (pe_lstN pa_nil) (pa_cons (pe_tup (pa_cons pe_str pa_nil)) (pa_cons (pe_lstN (pa_cons pe_int (pa_cons pe_int (pa_cons pe_int pa_nil)))) (pa_cons (pe_tup (pa_cons (pe_tup (pa_cons pe_str (pa_cons pe_str pa_nil))) pa_nil)) (pa_cons (pe_lstN (pa_cons (pe_lstN pa_nil) pa_nil)) pa_nil))))))) (pe_call G_law_pick hr_law_pick rfl T.m_law_pick T.F_law_pick.kp T.b_law_pick .nil pass0 (pa_cons (pv 1) (pa_cons pe_int pa_nil))) (fun _ _ => rfl)))
      (pss_cons (ps_set (i := 7) sc_law.nd rfl (Or.inl rfl) (pe_ix (show IxR _ (rIxL K) from ix_list) (pe_lstN (pa_cons (pe_tup pa_nil) (pa_cons (pe_tup (pa_cons pe_str (pa_cons pe_int pa_nil))) (pa_cons (pe_lstN (pa_cons pe_int (pa_cons pe_int pa_nil))) (pa_cons pe_non (pa_cons pe_str (pa_cons (pe_disp (pps_cons pe_str pe_int pps_nil) (by rfl) (by rfl) (fun z => by cases z) (by decide)) (pa_cons (pe_tup (pa_cons pe_str (pa_cons pe_str pa_nil))) (pa_cons pe_bl pa_nil))))))))) (pe_call G_law_pick hr_law_pick rfl T.m_law_pick T.F_law_pick.kp T.b_law_pick .nil pass0 (pa_cons (pv 1) (pa_cons pe_int pa_nil))) (fun _ _ => rfl)))
      (pss_cons (ps_set (i := 8) sc_law.nd rfl (Or.inl rfl) (pe_call G_law_every hr_law_every rfl T.m_law_every T.F_law_every.kp T.b_law_every .nil pass0 (pa_cons (pv 4) (pa_cons (pv 5) (pa_cons (pv 6) (pa_cons (pv 7) pa_nil))))))
      (pss_cons (ps_for PassesOwn.never rfl (pi_range1 rfl T.n_range (pa_cons (pe_callB call_len_seq (by rfl) T.n_len (by decide +kernel) (pa_cons (pv 8) pa_nil)) pa_nil)) (pg_name (i := 9) sc_law.nd rfl (Or.inr rfl))
        (pss_cons (ps_if (pt_cmpR (op_neD hr.units) (pe_call G_law_kinds hr_law_kinds rfl T.m_law_kinds T.F_law_kinds.kp T.b_law_kinds .nil pass0 (pa_cons (pe_ix (show IxR _ (rIxL K) from ix_list) (pv 8) (pv 9) (fun _ _ => rfl)) pa_nil)) (pe_lc (own := [("_law_j", 10)]) (by rfl) sc_law.nd (pi_range1 rfl T.n_range (pa_cons (pe_callB call_len_seq (by rfl) T.n_len (by decide +kernel) (pa_cons (pv 8) pa_nil)) pa_nil)) (blkOk_by (own := [("_law_j", 10)]) (N := ["_law_script", "_law_source_here", "_law_great", "_law_lap", "_law_word", "_law_number", "_law_some", "_law_other", "_law_every_here", "_law_k", "_law_j"]) (sc := defScope s_law) (by decide +kernel)) (fun _ _ _ _ _ => pg_name (i := 10) sc_law.nd rfl (Or.inl rfl)) (fun _ _ _ _ _ => pts_nil) (fun _ _ _ _ _ => (pe_cmpR op_eq (pv 10) (pv 9) (nomark _)))) (nomark _))
        (pss_one (ps_ret pe_bl))
        pss_nil)
      (pss_one (ps_if (pt_cmpR (op_neD hr.units) (pe_call G_law_bases hr_law_bases rfl T.m_law_bases T.F_law_bases.kp T.b_law_bases .nil pass0 (pa_cons (pe_ix (show IxR _ (rIxL K) from ix_list) (pv 8) (pv 9) (fun _ _ => rfl)) pa_nil)) (pe_lstN (pa_cons (pe_cmpR op_lt (pv 9) pe_int (nomark _)) (pa_cons (pe_cmpR op_lt (pv 9) pe_int (nomark _)) (pa_cons (pe_cmpR op_eq (pv 9) pe_int (nomark _)) (pa_cons (pe_cmpR op_eq (pv 9) pe_int (nomark _)) (pa_cons pe_bl pa_nil)))))) (nomark _))
        (pss_one (ps_ret pe_bl))
        pss_nil))))
      (pss_one (ps_if (PW.pt (pw_or (pt_cmpR op_ne (pe_callB call_len_seq (by rfl) T.n_len (by decide +kernel) (pa_cons (pv 8) pa_nil)) pe_int (nomark _)) (pw_or1 (pt_not (pt_val (pe_callG G_law_kept hg hr_law_kept rfl T.m_law_kept T.F_law_kept.kp T.b_law_kept pass0 (pa_cons (pv 8) (pa_cons (pv 4) (pa_cons (pv 5) (pa_cons (pv 6) (pa_cons (pv 7) pa_nil)))))))))))
        (pss_one (ps_ret pe_bl))
        pss_nil)))))))))
      (pss_one (ps_ret pe_bl)))))), ?_⟩
  refine ⟨_, rfl, a0, ns0, rfl, hS0, hl0, fun s c H1 s1 _ _ src1 => ?_⟩
  refine ⟨_, _, rfl, rfl, mk30, _, _, rfl, rfl, (by decide), _, _, rfl, great_is, (by decide), ?_⟩
  refine ⟨_, rfl, by decide, by decide, for_range (lo := 0) (n := 2) (fun i σ M => ∃ v3 v4 v5 v6 v7 v8 v9 : Option V, σ = [some (.ref a0), some (.ref s), some (.int GREAT), v3, v4, v5, v6, v7, v8, v9, none] ∧ Src M s c)
    ⟨none, none, none, none, none, none, none, rfl, src1⟩ ?_ ?_⟩
  rotate_left
  · rintro σ M ⟨v3, v4, v5, v6, v7, v8, v9, rfl, S⟩
    exact k _
  rintro i σ M hi ⟨v3, v4, v5, v6, v7, v8, v9, rfl, S⟩
  -- the word
  refine ⟨_, _, rfl, rfl, mk100, (by show 1 ≤ sizeLine; decide), fun p1 h1 => fun p2 h2 => ⟨(by show 2 ≤ sizeLine; decide), fun p3 h3 b3 => ⟨(by show 8 ≤ sizeLine; decide), fun p4 h4 b4 => ?_⟩⟩⟩
  have s1 := same_new h1 (.tup [.str "a"])
  have S1 := S.same s1
  have d1 : Dz (cutH s c _) (.ref p1) (.tuple [.str "a"]) := dz_tup S h1 (.cons (.str "a") .nil)
  have s2 := same_new h2 (.dK [])
  have S2 := S1.same s2
  have d2 : Dz (cutH s c _) (.ref p2) (.dict []) := dz_dct S1 h2 .none
  have s3 := same_new h3 (.lst [.str "a", .ref p2])
  have S3 := S2.same s3
  have d3 : Dz (cutH s c _) (.ref p3) (.list [.str "a", .dict []]) := dz_lst S2 h3 b3 (.cons (.str "a") (.cons d2 .nil))
  have s4 := same_new h4 (.lst [.str "", .str "x", .str "no such name", .non, .str (Txt.mul "x" 100), .ref p1, .int 0, .ref p3])
  have S4 := S3.same s4
  have all : DzAll (cutH s c _) [.str "", .str "x", .str "no such name", .non, .str (Txt.mul "x" 100), .ref p1, .int 0, .ref p3] WORDS := DzAll.same (cut_of s4) (.cons (.str _) (.cons (.str _) (.cons (.str _) (.cons .non (.cons (.str _) (.cons (d1.same (cut_of (s2.trans s3))) (.cons (.int 0) (.cons d3 .nil))))))))
  refine ⟨_, rfl, s, c, 8, rfl, S4, by decide, by decide, fun jx M1 x0 x1 g1 => ?_⟩
  obtain ⟨vx, dx, ex, mx, zx⟩ := one_of all rfl x0 x1
  have zx := zx.same (cut_go g1)
  refine ⟨p4, _, jx, vx, rfl, rfl, SqL.of (g1.keep _ _ (S3.ne_none h4).1 (S3.ne_none h4).2 upd_same), ex, ?_⟩
  have T1 := g1.src
  clear all d3 d2 d1 g1 s4 s3 s2 s1
  -- the number
  refine ⟨_, rfl, _, rfl, (by show 7 ≤ sizeLine; decide), fun p5 h5 b5 => ?_⟩
  have s5 := same_new h5 (.lst [.int 0, .int 1, .int 7, .int 200, .int GREAT, .int (-1), .non])
  have S5 := T1.same s5
  have zx := zx.same (cut_of s5)
  have all : DzAll (cutH s c _) [.int 0, .int 1, .int 7, .int 200, .int GREAT, .int (-1), .non] NUMS := DzAll.same (cut_of s5) (.cons (.int _) (.cons (.int _) (.cons (.int _) (.cons (.int _) (.cons (.int _) (.cons (.int _) (.cons .non .nil)))))))
  refine ⟨_, rfl, s, c, 7, rfl, S5, by decide, by decide, fun jn M2 n0 n1 g2 => ?_⟩
  obtain ⟨vn, dn, en, mn, zn⟩ := one_of all rfl n0 n1
  have zn := zn.same (cut_go g2)
  have zx := zx.same (cut_go g2)
  refine ⟨p5, _, jn, vn, rfl, rfl, SqL.of (g2.keep _ _ (T1.ne_none h5).1 (T1.ne_none h5).2 upd_same), en, ?_⟩
  have T2 := g2.src
  clear all g2 s5
  -- a path
  refine ⟨(by show 2 ≤ sizeLine; decide), fun r1 k1 c1 => ⟨(by show 0 ≤ sizeLine; decide), fun r2 k2 c2 => ⟨(by show 1 ≤ sizeLine; decide), fun r3 k3 => ⟨(by show 3 ≤ sizeLine; decide), fun r4 k4 c4 => ?_⟩⟩⟩⟩
  have u1 := same_new k1 (.lst [.str "a", .str "b"])
  have U1 := T2.same u1
  have d1 : Dz (cutH s c _) (.ref r1) (.list [.str "a", .str "b"]) := dz_lst T2 k1 c1 (.cons (.str "a") (.cons (.str "b") .nil))
  have u2 := same_new k2 (.lst [])
  have U2 := U1.same u2
  have d2 : Dz (cutH s c _) (.ref r2) (.list []) := dz_lst U1 k2 c2 .nil
  have u3 := same_new k3 (.tup [.str "a"])
  have U3 := U2.same u3
  have d3 : Dz (cutH s c _) (.ref r3) (.tuple [.str "a"]) := dz_tup U2 k3 (.cons (.str "a") .nil)
  have u4 := same_new k4 (.lst [.int 0, .int 1, .int 0])
  have U4 := U3.same u4
  have d4 : Dz (cutH s c _) (.ref r4) (.list [.int 0, .int 1, .int 0]) := dz_lst U3 k4 c4 (.cons (.int 0) (.cons (.int 1) (.cons (.int 0) .nil)))
  refine ⟨(by show 2 ≤ sizeLine; decide), fun r5 k5 => ⟨(by show 1 ≤ sizeLine; decide), fun r6 k6 => ⟨(by show 0 ≤ sizeLine; decide), fun r7 k7 c7 => ⟨(by show 1 ≤ sizeLine; decide), fun r8 k8 c8 => ⟨(by show 6 ≤ sizeLine; decide), fun r9 k9 c9 => ?_⟩⟩⟩⟩⟩
  have u5 := same_new k5 (.tup [.str "x", .str "y"])
  have U5 := U4.same u5
  have d5 : Dz (cutH s c _) (.ref r5) (.tuple [.str "x", .str "y"]) := dz_tup U4 k5 (.cons (.str "x") (.cons (.str "y") .nil))
  have u6 := same_new k6 (.tup [.ref r5])
  have U6 := U5.same u6
  have d6 : Dz (cutH s c _) (.ref r6) (.tuple [.tuple [.str "x", .str "y"]]) := dz_tup U5 k6 (.cons d5 .nil)
  have u7 := same_new k7 (.lst [])
  have U7 := U6.same u7
  have d7 : Dz (cutH s c _) (.ref r7) (.list []) := dz_lst U6 k7 c7 .nil
  have u8 := same_new k8 (.lst [.ref r7])
  have U8 := U7.same u8
  have d8 : Dz (cutH s c _) (.ref r8) (.list [.list []]) := dz_lst U7 k8 c8 (.cons d7 .nil)
  have u9 := same_new k9 (.lst [.ref r1, .ref r2, .ref r3, .ref r4, .ref r6, .ref r8])
  have U9 := U8.same u9
  have all : DzAll (cutH s c _) [.ref r1, .ref r2, .ref r3, .ref r4, .ref r6, .ref r8] SOMES := DzAll.same (cut_of u9) (.cons (d1.same (cut_of (u2.trans (u3.trans (u4.trans (u5.trans (u6.trans (u7.trans u8)))))))) (.cons (d2.same (cut_of (u3.trans (u4.trans (u5.trans (u6.trans (u7.trans u8))))))) (.cons (d3.same (cut_of (u4.trans (u5.trans (u6.trans (u7.trans u8)))))) (.cons (d4.same (cut_of (u5.trans (u6.trans (u7.trans u8))))) (.cons (d6.same (cut_of (u7.trans u8))) (.cons d8 .nil))))))
  have uu := u1.trans (u2.trans (u3.trans (u4.trans (u5.trans (u6.trans (u7.trans (u8.trans u9)))))))
  have zn := zn.same (cut_of uu)
  have zx := zx.same (cut_of uu)
  refine ⟨_, rfl, s, c, 6, rfl, U9, by decide, by decide, fun js M3 s0 s1 g3 => ?_⟩
  obtain ⟨vs, dsome, es, ms, zs⟩ := one_of all rfl s0 s1
  have zs := zs.same (cut_go g3)
  have zn := zn.same (cut_go g3)
  have zx := zx.same (cut_go g3)
  refine ⟨r9, _, js, vs, rfl, rfl, SqL.of (g3.keep _ _ (U8.ne_none k9).1 (U8.ne_none k9).2 upd_same), es, ?_⟩
  have T3 := g3.src
  clear all g3 uu d8 d7 d6 d5 d4 d3 d2 d1 u9 u8 u7 u6 u5 u4 u3 u2 u1 U1 U2 U3 U4 U5 U6 U7 U8
  -- another value
  refine ⟨(by show 0 ≤ sizeLine; decide), fun o1 l1 => ⟨(by show 2 ≤ sizeLine; decide), fun o2 l2 => ⟨(by show 2 ≤ sizeLine; decide), fun o3 l3 f3 => fun o4 l4 => ⟨upd_same, [(.inr "a", .int 0)], rfl, by decide, ?_⟩⟩⟩⟩
  rw [show mergeK [] [((.inr "a" : Key), V.int 0)] = [((.inr "a" : Key), V.int 0)] from rfl, upd_upd]
  have u1 := same_new l1 (.tup [])
  have U1 := T3.same u1
  have d1 : Dz (cutH s c _) (.ref o1) (.tuple []) := dz_tup T3 l1 .nil
  have u2 := same_new l2 (.tup [.str "square", .int 0])
  have U2 := U1.same u2
  have d2 : Dz (cutH s c _) (.ref o2) (.tuple [.str "square", .int 0]) := dz_tup U1 l2 (.cons (.str "square") (.cons (.int 0) .nil))
  have u3 := same_new l3 (.lst [.int 0, .int 1])
  have U3 := U2.same u3
  have d3 : Dz (cutH s c _) (.ref o3) (.list [.int 0, .int 1]) := dz_lst U2 l3 f3 (.cons (.int 0) (.cons (.int 1) .nil))
  have u4 := same_new l4 (.dK [(.inr "a", .int 0)])
  have U4 := U3.same u4
  have d4 : Dz (cutH s c _) (.ref o4) (.dict [(.str "a", .int 0)]) := dz_dct U3 l4 (.one (.inr "a") 0)
  refine ⟨(by show 2 ≤ sizeLine; decide), fun o5 l5 => ⟨(by show 8 ≤ sizeLine; decide), fun o6 l6 f6 => ?_⟩⟩
  have u5 := same_new l5 (.tup [.str "a", .str "b"])
  have U5 := U4.same u5
  have d5 : Dz (cutH s c _) (.ref o5) (.tuple [.str "a", .str "b"]) := dz_tup U4 l5 (.cons (.str "a") (.cons (.str "b") .nil))
  have u6 := same_new l6 (.lst [.ref o1, .ref o2, .ref o3, .non, .str "path", .ref o4, .ref o5, .bl true])
  have U6 := U5.same u6
  have all : DzAll (cutH s c _) [.ref o1, .ref o2, .ref o3, .non, .str "path", .ref o4, .ref o5, .bl true] OTHERS := DzAll.same (cut_of u6) (.cons (d1.same (cut_of (u2.trans (u3.trans (u4.trans u5))))) (.cons (d2.same (cut_of (u3.trans (u4.trans u5)))) (.cons (d3.same (cut_of (u4.trans u5))) (.cons .non (.cons (.str "path") (.cons (d4.same (cut_of u5)) (.cons d5 (.cons (.bl true) .nil))))))))
  have uu := u1.trans (u2.trans (u3.trans (u4.trans (u5.trans u6))))
  have zs := zs.same (cut_of uu)
  have zn := zn.same (cut_of uu)
  have zx := zx.same (cut_of uu)
  refine ⟨_, rfl, s, c, 8, rfl, U6, by decide, by decide, fun jo M4 q0 q1 g4 => ?_⟩
  obtain ⟨vo, dd, eo, mo, zo⟩ := one_of all rfl q0 q1
  have zo := zo.same ((cut_go g4).trans cut_same)
  have zs := zs.same ((cut_go g4).trans cut_same)
  have zn := zn.same ((cut_go g4).trans cut_same)
  have zx := zx.same ((cut_go g4).trans cut_same)
  refine ⟨o6, _, jo, vo, rfl, rfl, SqL.of (g4.keep _ _ (U5.ne_none l6).1 (U5.ne_none l6).2 upd_same), eo, ?_⟩
  have T4 := g4.src
  clear all g4 uu d5 d4 d3 d2 d1 u6 u5 u4 u3 u2 u1 U1 U2 U3 U4 U5 U6
  obtain ⟨sq, fs⟩ := fit_somes _ ms
  obtain ⟨p, ys, rfl, hp, zs⟩ := zs.seq sq
  -- all errors
  refine ⟨_, rfl, _, rfl, _, rfl, _, rfl, vx, vn, vo, p, ys, rfl, hp, fun M5 l a_0 a_1 a_2 a_3 a_4 a_5 a_6 a_7 a_8 a_9 a_10 a_11 a_12 a_13 a_14 a_15 a_16 w5 hl ev => ?_⟩
  have S5 := T4.same w5
  have zo := zo.same w5
  have zs := zs.same w5
  have zn := zn.same w5
  have zx := zx.same w5
  have hp := or_same w5 hp
  have E17 := ev.get
  refine ⟨_, rfl, l, _, rfl, .inl (SqL.of hl), _, rfl, (by show -2 ^ 62 ≤ ((17 : Nat) : Int); decide), (by show ((17 : Nat) : Int) < 2 ^ 62; decide), for_range (lo := 0) (n := 17) (fun j σ M => ∃ v9 : Option V, σ = [some (.ref a0), some (.ref s), some (.int GREAT), some (.int (0 + (i : Int))), some vx, some vn, some (.ref p), some vo, some (.ref l), v9, none] ∧ Same M5 M)
    ⟨v9, rfl, fun _ _ e => e⟩ ?_ ?_⟩
  · rintro j σ M hj ⟨v9, rfl, sM⟩
    obtain ⟨a, C, ea, eC, er⟩ := E17 j hj
    refine ⟨_, rfl, _, rfl, l, _, _, _, rfl, rfl, SqL.of (sM _ _ hl), (by rw [Int.zero_add]; exact atI_nat ea), a, C, j, rfl, er.same sM, eC, fun M6 l1 w6 h6 => ?_⟩
    refine ⟨_, rfl, l, _, rfl, .inl (SqL.of (w6 _ _ (sM _ _ hl))), _, rfl, (by show -2 ^ 62 ≤ ((17 : Nat) : Int); decide), (by show ((17 : Nat) : Int) < 2 ^ 62; decide), fun D hD => ?_⟩
    refine lc_range (lo := 0) (n := 17) (Lc M6 D (kindsV j)) (Lc.zero hD) ?_ ?_
    · rintro q N hq z
      refine ⟨rfl, ?_⟩
      refine ⟨_, rfl, _, rfl, rfl, ?_⟩
      exact Lc.lay hD z (kinds_get hq) (by show 17 ≤ 1000; decide)
    · rintro N z
      obtain ⟨w7, h7⟩ := z.all rfl
      refine ⟨_, _, dp_kinds (w7 _ _ h6), dp_kinds h7, sh_kinds hj, sh_kinds hj, ?_⟩
      rw [eqv_same (sh_kinds hj)]
      refine ⟨false, rfl, iteF ?_⟩
      have W := sM.trans (w6.trans w7)
      refine ⟨_, rfl, _, rfl, l, _, _, _, rfl, rfl, SqL.of (W _ _ hl), (by rw [Int.zero_add]; exact atI_nat ea), a, C, j, rfl, er.same W, eC, fun M8 l2 w8 h8 => ?_⟩
      refine ⟨_, rfl, _, _, rfl, rfl, ⟨_, rfl, _, _, rfl, rfl, ⟨_, rfl, rfl, ⟨_, rfl, rfl, ⟨(by show 5 ≤ sizeLine; decide), fun D2 hD2 bD => ?_⟩⟩⟩⟩⟩
      have eL : [V.bl (decide (0 + (j : Int) < 16)), V.bl (decide (0 + (j : Int) < 16)), V.bl (decide (V.int (0 + (j : Int)) = V.int 16)), V.bl (decide (V.int (0 + (j : Int)) = V.int 16)), V.bl false] = basesV j := by
        unfold basesV
        rw [lt_i16, eq_i16]
      have w9 := same_new hD2 (.lst [V.bl (decide (0 + (j : Int) < 16)), V.bl (decide (0 + (j : Int) < 16)), V.bl (decide (V.int (0 + (j : Int)) = V.int 16)), V.bl (decide (V.int (0 + (j : Int)) = V.int 16)), V.bl false])
      have h9 : L2.upd M8 D2 (.lst [V.bl (decide (0 + (j : Int) < 16)), V.bl (decide (0 + (j : Int) < 16)), V.bl (decide (V.int (0 + (j : Int)) = V.int 16)), V.bl (decide (V.int (0 + (j : Int)) = V.int 16)), V.bl false]) D2 = some (.lst (basesV j)) := by
        rw [eL]
        exact upd_same
      refine ⟨_, _, dp_bases (w9 _ _ h8), dp_bases h9, sh_bases hj, sh_bases hj, ?_⟩
      rw [eqv_same (sh_bases hj)]
      refine ⟨false, rfl, iteF ?_⟩
      exact ⟨_, rfl, W.trans (w8.trans w9)⟩
  · rintro σ M ⟨v9, rfl, sM⟩
    refine ⟨_, rfl, l, _, rfl, .inl (SqL.of (sM _ _ hl)), rfl, _, rfl, iteN (fun z => absurd rfl z) (fun _ => ?_)⟩
    refine ⟨_, rfl, _, rfl, _, rfl, _, rfl, _, rfl, l, vx, vn, vo, p, ys, dx, dn, dd, itemsD dsome, a_0, a_1, a_2, a_3, a_4, a_5, a_6, a_7, a_8, a_9, a_10, a_11, a_12, a_13, a_14, a_15, a_16, rfl, sM _ _ hl, or_same sM hp, ev.same sM, zx.same sM, zn.same sM, zs.same sM, zo.same sM, fit_words _ mx, fit_nums _ mn, fs, fit_others _ mo, fun M9 w9 => ?_⟩
    refine ⟨_, rfl, iteF ?_⟩
    exact ⟨_, _, _, _, _, _, _, rfl, S5.same (sM.trans w9)⟩
end
end My

namespace My
open PySem PySem.Spec PyProof.Rows L2
theorem tx_mk {K : PySem.W.Frag} {h : Heap} {mg : Str → Option Value} (X : K.In h) (G : h.Ns mainGlobals mg)
    {fa f_law_source f_law_pick f_law_kinds f_law_bases f_law_every f_law_kept f_law : Addr}
    {od_law_source an_law_source od_law_pick an_law_pick od_law_kinds an_law_kinds od_law_bases an_law_bases od_law_every an_law_every od_law_kept an_law_kept od_law an_law : Option Addr}
    {sl_law_source sl_law_pick sl_law_kinds sl_law_bases sl_law_every sl_law_kept sl_law : Array (Option Value)}
    {oc_law_source kV_law_source dc_law_source pm_law_source cd_law_source ct_law_source oc_law_pick kV_law_pick dc_law_pick pm_law_pick cd_law_pick ct_law_pick oc_law_kinds kV_law_kinds dc_law_kinds pm_law_kinds cd_law_kinds ct_law_kinds oc_law_bases kV_law_bases dc_law_bases pm_law_bases cd_law_bases ct_law_bases oc_law_every kV_law_every dc_law_every pm_law_every cd_law_every ct_law_every oc_law_kept kV_law_kept dc_law_kept pm_law_kept cd_law_kept ct_law_kept oc_law kV_law dc_law pm_law cd_law ct_law : Value}
    {C_BadBook N_BadBook fi_BadBook CB0_BadBook : Addr} {nm_BadBook q_BadBook : Str} {bs_BadBook sub_BadBook : List Value} {sn_BadBook : List Str} {ab_BadBook : Bool} {col_BadBook : Option Bool} {dd_BadBook odi_BadBook ani_BadBook : Option Addr} {m0_BadBook m1_BadBook m2_BadBook m3_BadBook m5_BadBook : Option Value} {sli_BadBook : Array (Option Value)} {oci_BadBook kVi_BadBook dci_BadBook pmi_BadBook cdi_BadBook cti_BadBook : Value}
    {C_BadStock N_BadStock fi_BadStock CB0_BadStock : Addr} {nm_BadStock q_BadStock : Str} {bs_BadStock sub_BadStock : List Value} {sn_BadStock : List Str} {ab_BadStock : Bool} {col_BadStock : Option Bool} {dd_BadStock odi_BadStock ani_BadStock : Option Addr} {m0_BadStock m1_BadStock m2_BadStock m3_BadStock m5_BadStock : Option Value} {sli_BadStock : Array (Option Value)} {oci_BadStock kVi_BadStock dci_BadStock pmi_BadStock cdi_BadStock cti_BadStock : Value}
    {C_BadTree N_BadTree fi_BadTree CB0_BadTree : Addr} {nm_BadTree q_BadTree : Str} {bs_BadTree sub_BadTree : List Value} {sn_BadTree : List Str} {ab_BadTree : Bool} {col_BadTree : Option Bool} {dd_BadTree odi_BadTree ani_BadTree : Option Addr} {m0_BadTree m1_BadTree m2_BadTree m3_BadTree m5_BadTree : Option Value} {sli_BadTree : Array (Option Value)} {oci_BadTree kVi_BadTree dci_BadTree pmi_BadTree cdi_BadTree cti_BadTree : Value}
    {C_BadAccount N_BadAccount fi_BadAccount CB0_BadAccount : Addr} {nm_BadAccount q_BadAccount : Str} {bs_BadAccount sub_BadAccount : List Value} {sn_BadAccount : List Str} {ab_BadAccount : Bool} {col_BadAccount : Option Bool} {dd_BadAccount odi_BadAccount ani_BadAccount : Option Addr} {m0_BadAccount m1_BadAccount m2_BadAccount m3_BadAccount m5_BadAccount : Option Value} {sli_BadAccount : Array (Option Value)} {oci_BadAccount kVi_BadAccount dci_BadAccount pmi_BadAccount cdi_BadAccount cti_BadAccount : Value}
    {C_BadPrices N_BadPrices fi_BadPrices CB0_BadPrices : Addr} {nm_BadPrices q_BadPrices : Str} {bs_BadPrices sub_BadPrices : List Value} {sn_BadPrices : List Str} {ab_BadPrices : Bool} {col_BadPrices : Option Bool} {dd_BadPrices odi_BadPrices ani_BadPrices : Option Addr} {m0_BadPrices m1_BadPrices m2_BadPrices m3_BadPrices m5_BadPrices : Option Value} {sli_BadPrices : Array (Option Value)} {oci_BadPrices kVi_BadPrices dci_BadPrices pmi_BadPrices cdi_BadPrices cti_BadPrices : Value}
    {C_BadMade N_BadMade fi_BadMade CB0_BadMade : Addr} {nm_BadMade q_BadMade : Str} {bs_BadMade sub_BadMade : List Value} {sn_BadMade : List Str} {ab_BadMade : Bool} {col_BadMade : Option Bool} {dd_BadMade odi_BadMade ani_BadMade : Option Addr} {m0_BadMade m1_BadMade m2_BadMade m3_BadMade m5_BadMade : Option Value} {sli_BadMade : Array (Option Value)} {oci_BadMade kVi_BadMade dci_BadMade pmi_BadMade cdi_BadMade cti_BadMade : Value}
    {C_NotGood N_NotGood fi_NotGood CB0_NotGood : Addr} {nm_NotGood q_NotGood : Str} {bs_NotGood sub_NotGood : List Value} {sn_NotGood : List Str} {ab_NotGood : Bool} {col_NotGood : Option Bool} {dd_NotGood odi_NotGood ani_NotGood : Option Addr} {m0_NotGood m1_NotGood m2_NotGood m3_NotGood m5_NotGood : Option Value} {sli_NotGood : Array (Option Value)} {oci_NotGood kVi_NotGood dci_NotGood pmi_NotGood cdi_NotGood cti_NotGood : Value}
    {C_NoAccount N_NoAccount fi_NoAccount CB0_NoAccount : Addr} {nm_NoAccount q_NoAccount : Str} {bs_NoAccount sub_NoAccount : List Value} {sn_NoAccount : List Str} {ab_NoAccount : Bool} {col_NoAccount : Option Bool} {dd_NoAccount odi_NoAccount ani_NoAccount : Option Addr} {m0_NoAccount m1_NoAccount m2_NoAccount m3_NoAccount m5_NoAccount : Option Value} {sli_NoAccount : Array (Option Value)} {oci_NoAccount kVi_NoAccount dci_NoAccount pmi_NoAccount cdi_NoAccount cti_NoAccount : Value}
    {C_Pumped N_Pumped fi_Pumped CB0_Pumped : Addr} {nm_Pumped q_Pumped : Str} {bs_Pumped sub_Pumped : List Value} {sn_Pumped : List Str} {ab_Pumped : Bool} {col_Pumped : Option Bool} {dd_Pumped odi_Pumped ani_Pumped : Option Addr} {m0_Pumped m1_Pumped m2_Pumped m3_Pumped m5_Pumped : Option Value} {sli_Pumped : Array (Option Value)} {oci_Pumped kVi_Pumped dci_Pumped pmi_Pumped cdi_Pumped cti_Pumped : Value}
    {C_BadDeed N_BadDeed fi_BadDeed CB0_BadDeed : Addr} {nm_BadDeed q_BadDeed : Str} {bs_BadDeed sub_BadDeed : List Value} {sn_BadDeed : List Str} {ab_BadDeed : Bool} {col_BadDeed : Option Bool} {dd_BadDeed odi_BadDeed ani_BadDeed : Option Addr} {m0_BadDeed m1_BadDeed m2_BadDeed m3_BadDeed m5_BadDeed : Option Value} {sli_BadDeed : Array (Option Value)} {oci_BadDeed kVi_BadDeed dci_BadDeed pmi_BadDeed cdi_BadDeed cti_BadDeed : Value}
    {C_BadOrder N_BadOrder fi_BadOrder CB0_BadOrder : Addr} {nm_BadOrder q_BadOrder : Str} {bs_BadOrder sub_BadOrder : List Value} {sn_BadOrder : List Str} {ab_BadOrder : Bool} {col_BadOrder : Option Bool} {dd_BadOrder odi_BadOrder ani_BadOrder : Option Addr} {m0_BadOrder m1_BadOrder m2_BadOrder m3_BadOrder m5_BadOrder : Option Value} {sli_BadOrder : Array (Option Value)} {oci_BadOrder kVi_BadOrder dci_BadOrder pmi_BadOrder cdi_BadOrder cti_BadOrder : Value}
    {C_BadText N_BadText fi_BadText CB0_BadText : Addr} {nm_BadText q_BadText : Str} {bs_BadText sub_BadText : List Value} {sn_BadText : List Str} {ab_BadText : Bool} {col_BadText : Option Bool} {dd_BadText odi_BadText ani_BadText : Option Addr} {m0_BadText m1_BadText m2_BadText m3_BadText m5_BadText : Option Value} {sli_BadText : Array (Option Value)} {oci_BadText kVi_BadText dci_BadText pmi_BadText cdi_BadText cti_BadText : Value}
    {C_BadAct N_BadAct fi_BadAct CB0_BadAct : Addr} {nm_BadAct q_BadAct : Str} {bs_BadAct sub_BadAct : List Value} {sn_BadAct : List Str} {ab_BadAct : Bool} {col_BadAct : Option Bool} {dd_BadAct odi_BadAct ani_BadAct : Option Addr} {m0_BadAct m1_BadAct m2_BadAct m3_BadAct m5_BadAct : Option Value} {sli_BadAct : Array (Option Value)} {oci_BadAct kVi_BadAct dci_BadAct pmi_BadAct cdi_BadAct cti_BadAct : Value}
    {C_UnknownName N_UnknownName fi_UnknownName CB0_UnknownName : Addr} {nm_UnknownName q_UnknownName : Str} {bs_UnknownName sub_UnknownName : List Value} {sn_UnknownName : List Str} {ab_UnknownName : Bool} {col_UnknownName : Option Bool} {dd_UnknownName odi_UnknownName ani_UnknownName : Option Addr} {m0_UnknownName m1_UnknownName m2_UnknownName m3_UnknownName m5_UnknownName : Option Value} {sli_UnknownName : Array (Option Value)} {oci_UnknownName kVi_UnknownName dci_UnknownName pmi_UnknownName cdi_UnknownName cti_UnknownName : Value} (hfa : mg "law" = some (.ref fa))
    (a_law_source : PySem.W.nsIn K mainGlobals "_law_source" = some (some (.ref f_law_source))) (l_law_source : K.lookup f_law_source = some ⟨oc_law_source, od_law_source, .func (PySem.W.fnOf "_law_source" "_law_source" (defArgs s_law_source) (defBody s_law_source) (defScope s_law_source) .none kV_law_source dc_law_source pm_law_source an_law_source cd_law_source ct_law_source), sl_law_source⟩) (c_law_source : PySem.W.codeIn K cd_law_source "_law_source" = true) (k_law_source : PySem.W.keepIn K (.ref f_law_source) = true)
    (a_law_pick : PySem.W.nsIn K mainGlobals "_law_pick" = some (some (.ref f_law_pick))) (l_law_pick : K.lookup f_law_pick = some ⟨oc_law_pick, od_law_pick, .func (PySem.W.fnOf "_law_pick" "_law_pick" (defArgs s_law_pick) (defBody s_law_pick) (defScope s_law_pick) .none kV_law_pick dc_law_pick pm_law_pick an_law_pick cd_law_pick ct_law_pick), sl_law_pick⟩) (c_law_pick : PySem.W.codeIn K cd_law_pick "_law_pick" = true) (k_law_pick : PySem.W.keepIn K (.ref f_law_pick) = true)
    (a_law_kinds : PySem.W.nsIn K mainGlobals "_law_kinds" = some (some (.ref f_law_kinds))) (l_law_kinds : K.lookup f_law_kinds = some ⟨oc_law_kinds, od_law_kinds, .func (PySem.W.fnOf "_law_kinds" "_law_kinds" (defArgs s_law_kinds) (defBody s_law_kinds) (defScope s_law_kinds) .none kV_law_kinds dc_law_kinds pm_law_kinds an_law_kinds cd_law_kinds ct_law_kinds), sl_law_kinds⟩) (c_law_kinds : PySem.W.codeIn K cd_law_kinds "_law_kinds" = true) (k_law_kinds : PySem.W.keepIn K (.ref f_law_kinds) = true)
    (a_law_bases : PySem.W.nsIn K mainGlobals "_law_bases" = some (some (.ref f_law_bases))) (l_law_bases : K.lookup f_law_bases = some ⟨oc_law_bases, od_law_bases, .func (PySem.W.fnOf "_law_bases" "_law_bases" (defArgs s_law_bases) (defBody s_law_bases) (defScope s_law_bases) .none kV_law_bases dc_law_bases pm_law_bases an_law_bases cd_law_bases ct_law_bases), sl_law_bases⟩) (c_law_bases : PySem.W.codeIn K cd_law_bases "_law_bases" = true) (k_law_bases : PySem.W.keepIn K (.ref f_law_bases) = true)
    (a_law_every : PySem.W.nsIn K mainGlobals "_law_every" = some (some (.ref f_law_every))) (l_law_every : K.lookup f_law_every = some ⟨oc_law_every, od_law_every, .func (PySem.W.fnOf "_law_every" "_law_every" (defArgs s_law_every) (defBody s_law_every) (defScope s_law_every) .none kV_law_every dc_law_every pm_law_every an_law_every cd_law_every ct_law_every), sl_law_every⟩) (c_law_every : PySem.W.codeIn K cd_law_every "_law_every" = true) (k_law_every : PySem.W.keepIn K (.ref f_law_every) = true)
    (a_law_kept : PySem.W.nsIn K mainGlobals "_law_kept" = some (some (.ref f_law_kept))) (l_law_kept : K.lookup f_law_kept = some ⟨oc_law_kept, od_law_kept, .func (PySem.W.fnOf "_law_kept" "_law_kept" (defArgs s_law_kept) (defBody s_law_kept) (defScope s_law_kept) .none kV_law_kept dc_law_kept pm_law_kept an_law_kept cd_law_kept ct_law_kept), sl_law_kept⟩) (c_law_kept : PySem.W.codeIn K cd_law_kept "_law_kept" = true) (k_law_kept : PySem.W.keepIn K (.ref f_law_kept) = true)
    (a_law : PySem.W.nsIn K mainGlobals "law" = some (some (.ref f_law))) (l_law : K.lookup f_law = some ⟨oc_law, od_law, .func (PySem.W.fnOf "law" "law" (defArgs s_law) (defBody s_law) (defScope s_law) .none kV_law dc_law pm_law an_law cd_law ct_law), sl_law⟩) (c_law : PySem.W.codeIn K cd_law "law" = true) (k_law : PySem.W.keepIn K (.ref f_law) = true)
    (aC_BadBook : PySem.W.nsIn K mainGlobals "BadBook" = some (some (.ref C_BadBook)))
    (xL_BadBook : K.lookup C_BadBook = some (excClassObj nm_BadBook q_BadBook C_BadBook N_BadBook bs_BadBook [.ref CB0_BadBook, .type "ValueError", .type "Exception", .type "BaseException", .type "object"] true sn_BadBook sub_BadBook ab_BadBook col_BadBook dd_BadBook m0_BadBook m1_BadBook m2_BadBook m3_BadBook m5_BadBook "ValueError.__new__"))
    (sa_BadBook : PySem.W.findIn K (.ref C_BadBook) "__setattr__" = some (some (.builtin "object.__setattr__")))
    (ga_BadBook : PySem.W.findIn K (.ref C_BadBook) "__getattribute__" = some (some (.builtin "BaseException.__getattribute__")))
    (gg_BadBook : PySem.W.findIn K (.ref C_BadBook) "__getattr__" = some none)
    (nf_BadBook : PySem.W.findIn K (.ref C_BadBook) "path" = some none)
    (ai_BadBook : PySem.W.findIn K (.ref C_BadBook) "__init__" = some (some (.ref fi_BadBook)))
    (ti_BadBook : PySem.W.typeIn K (.ref fi_BadBook) = some (.type "function"))
    (li_BadBook : K.lookup fi_BadBook = some ⟨oci_BadBook, odi_BadBook, .func (PySem.W.fnOf "__init__" "BadBook.__init__" (defArgs (initOf s_BadBook)) (defBody (initOf s_BadBook)) (defScope (initOf s_BadBook)) .none kVi_BadBook dci_BadBook pmi_BadBook ani_BadBook cdi_BadBook cti_BadBook), sli_BadBook⟩)
    (ci_BadBook : PySem.W.codeIn K cdi_BadBook "BadBook.__init__" = true)
    (ki_BadBook : PySem.W.keepIn K (.ref fi_BadBook) = true)
    (kC_BadBook : PySem.W.keepIn K (.ref C_BadBook) = true)
    (eC_BadBook : PySem.W.subIn K (.ref C_BadBook) (.type "BaseException") = some true)
    (tC_BadBook : PySem.W.typeIn K (.ref C_BadBook) = some (.type "type"))
    (hC_BadBook : PySem.W.hasDictIn K C_BadBook = true)
    (iC_BadBook : PySem.W.isClsIn K C_BadBook = true)
    (sC_BadBook : PySem.W.subIn K (.ref C_BadBook) (.ref C_BadBook) = some true)
    (aC_BadStock : PySem.W.nsIn K mainGlobals "BadStock" = some (some (.ref C_BadStock)))
    (xL_BadStock : K.lookup C_BadStock = some (excClassObj nm_BadStock q_BadStock C_BadStock N_BadStock bs_BadStock [.ref CB0_BadStock, .type "ValueError", .type "Exception", .type "BaseException", .type "object"] true sn_BadStock sub_BadStock ab_BadStock col_BadStock dd_BadStock m0_BadStock m1_BadStock m2_BadStock m3_BadStock m5_BadStock "ValueError.__new__"))
    (sa_BadStock : PySem.W.findIn K (.ref C_BadStock) "__setattr__" = some (some (.builtin "object.__setattr__")))
    (ga_BadStock : PySem.W.findIn K (.ref C_BadStock) "__getattribute__" = some (some (.builtin "BaseException.__getattribute__")))
    (gg_BadStock : PySem.W.findIn K (.ref C_BadStock) "__getattr__" = some none)
    (nf_BadStock : PySem.W.findIn K (.ref C_BadStock) "path" = some none)
    (ai_BadStock : PySem.W.findIn K (.ref C_BadStock) "__init__" = some (some (.ref fi_BadStock)))
    (ti_BadStock : PySem.W.typeIn K (.ref fi_BadStock) = some (.type "function"))
    (li_BadStock : K.lookup fi_BadStock = some ⟨oci_BadStock, odi_BadStock, .func (PySem.W.fnOf "__init__" "BadStock.__init__" (defArgs (initOf s_BadStock)) (defBody (initOf s_BadStock)) (defScope (initOf s_BadStock)) .none kVi_BadStock dci_BadStock pmi_BadStock ani_BadStock cdi_BadStock cti_BadStock), sli_BadStock⟩)
    (ci_BadStock : PySem.W.codeIn K cdi_BadStock "BadStock.__init__" = true)
    (ki_BadStock : PySem.W.keepIn K (.ref fi_BadStock) = true)
    (kC_BadStock : PySem.W.keepIn K (.ref C_BadStock) = true)
    (eC_BadStock : PySem.W.subIn K (.ref C_BadStock) (.type "BaseException") = some true)
    (tC_BadStock : PySem.W.typeIn K (.ref C_BadStock) = some (.type "type"))
    (hC_BadStock : PySem.W.hasDictIn K C_BadStock = true)
    (iC_BadStock : PySem.W.isClsIn K C_BadStock = true)
    (sC_BadStock : PySem.W.subIn K (.ref C_BadStock) (.ref C_BadStock) = some true)
    (aC_BadTree : PySem.W.nsIn K mainGlobals "BadTree" = some (some (.ref C_BadTree)))
    (xL_BadTree : K.lookup C_BadTree = some (excClassObj nm_BadTree q_BadTree C_BadTree N_BadTree bs_BadTree [.ref CB0_BadTree, .type "ValueError", .type "Exception", .type "BaseException", .type "object"] true sn_BadTree sub_BadTree ab_BadTree col_BadTree dd_BadTree m0_BadTree m1_BadTree m2_BadTree m3_BadTree m5_BadTree "ValueError.__new__"))
    (sa_BadTree : PySem.W.findIn K (.ref C_BadTree) "__setattr__" = some (some (.builtin "object.__setattr__")))
    (ga_BadTree : PySem.W.findIn K (.ref C_BadTree) "__getattribute__" = some (some (.builtin "BaseException.__getattribute__")))
    (gg_BadTree : PySem.W.findIn K (.ref C_BadTree) "__getattr__" = some none)
    (nf_BadTree : PySem.W.findIn K (.ref C_BadTree) "path" = some none)
    (ai_BadTree : PySem.W.findIn K (.ref C_BadTree) "__init__" = some (some (.ref fi_BadTree)))
    (ti_BadTree : PySem.W.typeIn K (.ref fi_BadTree) = some (.type "function"))
    (li_BadTree : K.lookup fi_BadTree = some ⟨oci_BadTree, odi_BadTree, .func (PySem.W.fnOf "__init__" "BadTree.__init__" (defArgs (initOf s_BadTree)) (defBody (initOf s_BadTree)) (defScope (initOf s_BadTree)) .none kVi_BadTree dci_BadTree pmi_BadTree ani_BadTree cdi_BadTree cti_BadTree), sli_BadTree⟩)
    (ci_BadTree : PySem.W.codeIn K cdi_BadTree "BadTree.__init__" = true)
    (ki_BadTree : PySem.W.keepIn K (.ref fi_BadTree) = true)
    (kC_BadTree : PySem.W.keepIn K (.ref C_BadTree) = true)
    (eC_BadTree : PySem.W.subIn K (.ref C_BadTree) (.type "BaseException") = some true)
    (tC_BadTree : PySem.W.typeIn K (.ref C_BadTree) = some (.type "type"))
    (hC_BadTree : PySem.W.hasDictIn K C_BadTree = true)
    (iC_BadTree : PySem.W.isClsIn K C_BadTree = true)
    (sC_BadTree : PySem.W.subIn K (.ref C_BadTree) (.ref C_BadTree) = some true)
    (aC_BadAccount : PySem.W.nsIn K mainGlobals "BadAccount" = some (some (.ref C_BadAccount)))
    (xL_BadAccount : K.lookup C_BadAccount = some (excClassObj nm_BadAccount q_BadAccount C_BadAccount N_BadAccount bs_BadAccount [.ref CB0_BadAccount, .type "ValueError", .type "Exception", .type "BaseException", .type "object"] true sn_BadAccount sub_BadAccount ab_BadAccount col_BadAccount dd_BadAccount m0_BadAccount m1_BadAccount m2_BadAccount m3_BadAccount m5_BadAccount "ValueError.__new__"))
    (sa_BadAccount : PySem.W.findIn K (.ref C_BadAccount) "__setattr__" = some (some (.builtin "object.__setattr__")))
    (ga_BadAccount : PySem.W.findIn K (.ref C_BadAccount) "__getattribute__" = some (some (.builtin "BaseException.__getattribute__")))
    (gg_BadAccount : PySem.W.findIn K (.ref C_BadAccount) "__getattr__" = some none)
    (nf_BadAccount : PySem.W.findIn K (.ref C_BadAccount) "path" = some none)
    (ai_BadAccount : PySem.W.findIn K (.ref C_BadAccount) "__init__" = some (some (.ref fi_BadAccount)))
    (ti_BadAccount : PySem.W.typeIn K (.ref fi_BadAccount) = some (.type "function"))
    (li_BadAccount : K.lookup fi_BadAccount = some ⟨oci_BadAccount, odi_BadAccount, .func (PySem.W.fnOf "__init__" "BadAccount.__init__" (defArgs (initOf s_BadAccount)) (defBody (initOf s_BadAccount)) (defScope (initOf s_BadAccount)) .none kVi_BadAccount dci_BadAccount pmi_BadAccount ani_BadAccount cdi_BadAccount cti_BadAccount), sli_BadAccount⟩)
    (ci_BadAccount : PySem.W.codeIn K cdi_BadAccount "BadAccount.__init__" = true)
    (ki_BadAccount : PySem.W.keepIn K (.ref fi_BadAccount) = true)
    (kC_BadAccount : PySem.W.keepIn K (.ref C_BadAccount) = true)
    (eC_BadAccount : PySem.W.subIn K (.ref C_BadAccount) (.type "BaseException") = some true)
    (tC_BadAccount : PySem.W.typeIn K (.ref C_BadAccount) = some (.type "type"))
    (hC_BadAccount : PySem.W.hasDictIn K C_BadAccount = true)
    (iC_BadAccount : PySem.W.isClsIn K C_BadAccount = true)
    (sC_BadAccount : PySem.W.subIn K (.ref C_BadAccount) (.ref C_BadAccount) = some true)
    (aC_BadPrices : PySem.W.nsIn K mainGlobals "BadPrices" = some (some (.ref C_BadPrices)))
    (xL_BadPrices : K.lookup C_BadPrices = some (excClassObj nm_BadPrices q_BadPrices C_BadPrices N_BadPrices bs_BadPrices [.ref CB0_BadPrices, .type "ValueError", .type "Exception", .type "BaseException", .type "object"] true sn_BadPrices sub_BadPrices ab_BadPrices col_BadPrices dd_BadPrices m0_BadPrices m1_BadPrices m2_BadPrices m3_BadPrices m5_BadPrices "ValueError.__new__"))
    (sa_BadPrices : PySem.W.findIn K (.ref C_BadPrices) "__setattr__" = some (some (.builtin "object.__setattr__")))
    (ga_BadPrices : PySem.W.findIn K (.ref C_BadPrices) "__getattribute__" = some (some (.builtin "BaseException.__getattribute__")))
    (gg_BadPrices : PySem.W.findIn K (.ref C_BadPrices) "__getattr__" = some none)
    (nf_BadPrices : PySem.W.findIn K (.ref C_BadPrices) "path" = some none)
    (ai_BadPrices : PySem.W.findIn K (.ref C_BadPrices) "__init__" = some (some (.ref fi_BadPrices)))
    (ti_BadPrices : PySem.W.typeIn K (.ref fi_BadPrices) = some (.type "function"))
    (li_BadPrices : K.lookup fi_BadPrices = some ⟨oci_BadPrices, odi_BadPrices, .func (PySem.W.fnOf "__init__" "BadPrices.__init__" (defArgs (initOf s_BadPrices)) (defBody (initOf s_BadPrices)) (defScope (initOf s_BadPrices)) .none kVi_BadPrices dci_BadPrices pmi_BadPrices ani_BadPrices cdi_BadPrices cti_BadPrices), sli_BadPrices⟩)
    (ci_BadPrices : PySem.W.codeIn K cdi_BadPrices "BadPrices.__init__" = true)
    (ki_BadPrices : PySem.W.keepIn K (.ref fi_BadPrices) = true)
    (kC_BadPrices : PySem.W.keepIn K (.ref C_BadPrices) = true)
    (eC_BadPrices : PySem.W.subIn K (.ref C_BadPrices) (.type "BaseException") = some true)
    (tC_BadPrices : PySem.W.typeIn K (.ref C_BadPrices) = some (.type "type"))
    (hC_BadPrices : PySem.W.hasDictIn K C_BadPrices = true)
    (iC_BadPrices : PySem.W.isClsIn K C_BadPrices = true)
    (sC_BadPrices : PySem.W.subIn K (.ref C_BadPrices) (.ref C_BadPrices) = some true)
    (aC_BadMade : PySem.W.nsIn K mainGlobals "BadMade" = some (some (.ref C_BadMade)))
    (xL_BadMade : K.lookup C_BadMade = some (excClassObj nm_BadMade q_BadMade C_BadMade N_BadMade bs_BadMade [.ref CB0_BadMade, .type "ValueError", .type "Exception", .type "BaseException", .type "object"] true sn_BadMade sub_BadMade ab_BadMade col_BadMade dd_BadMade m0_BadMade m1_BadMade m2_BadMade m3_BadMade m5_BadMade "ValueError.__new__"))
    (sa_BadMade : PySem.W.findIn K (.ref C_BadMade) "__setattr__" = some (some (.builtin "object.__setattr__")))
    (ga_BadMade : PySem.W.findIn K (.ref C_BadMade) "__getattribute__" = some (some (.builtin "BaseException.__getattribute__")))
    (gg_BadMade : PySem.W.findIn K (.ref C_BadMade) "__getattr__" = some none)
    (nf_BadMade : PySem.W.findIn K (.ref C_BadMade) "path" = some none)
    (ai_BadMade : PySem.W.findIn K (.ref C_BadMade) "__init__" = some (some (.ref fi_BadMade)))
    (ti_BadMade : PySem.W.typeIn K (.ref fi_BadMade) = some (.type "function"))
    (li_BadMade : K.lookup fi_BadMade = some ⟨oci_BadMade, odi_BadMade, .func (PySem.W.fnOf "__init__" "BadMade.__init__" (defArgs (initOf s_BadMade)) (defBody (initOf s_BadMade)) (defScope (initOf s_BadMade)) .none kVi_BadMade dci_BadMade pmi_BadMade ani_BadMade cdi_BadMade cti_BadMade), sli_BadMade⟩)
    (ci_BadMade : PySem.W.codeIn K cdi_BadMade "BadMade.__init__" = true)
    (ki_BadMade : PySem.W.keepIn K (.ref fi_BadMade) = true)
    (kC_BadMade : PySem.W.keepIn K (.ref C_BadMade) = true)
    (eC_BadMade : PySem.W.subIn K (.ref C_BadMade) (.type "BaseException") = some true)
    (tC_BadMade : PySem.W.typeIn K (.ref C_BadMade) = some (.type "type"))
    (hC_BadMade : PySem.W.hasDictIn K C_BadMade = true)
    (iC_BadMade : PySem.W.isClsIn K C_BadMade = true)
    (sC_BadMade : PySem.W.subIn K (.ref C_BadMade) (.ref C_BadMade) = some true)
    (aC_NotGood : PySem.W.nsIn K mainGlobals "NotGood" = some (some (.ref C_NotGood)))
    (xL_NotGood : K.lookup C_NotGood = some (excClassObj nm_NotGood q_NotGood C_NotGood N_NotGood bs_NotGood [.ref CB0_NotGood, .type "ValueError", .type "Exception", .type "BaseException", .type "object"] true sn_NotGood sub_NotGood ab_NotGood col_NotGood dd_NotGood m0_NotGood m1_NotGood m2_NotGood m3_NotGood m5_NotGood "ValueError.__new__"))
    (sa_NotGood : PySem.W.findIn K (.ref C_NotGood) "__setattr__" = some (some (.builtin "object.__setattr__")))
    (ga_NotGood : PySem.W.findIn K (.ref C_NotGood) "__getattribute__" = some (some (.builtin "BaseException.__getattribute__")))
    (gg_NotGood : PySem.W.findIn K (.ref C_NotGood) "__getattr__" = some none)
    (nf_NotGood : PySem.W.findIn K (.ref C_NotGood) "square" = some none)
    (ai_NotGood : PySem.W.findIn K (.ref C_NotGood) "__init__" = some (some (.ref fi_NotGood)))
    (ti_NotGood : PySem.W.typeIn K (.ref fi_NotGood) = some (.type "function"))
    (li_NotGood : K.lookup fi_NotGood = some ⟨oci_NotGood, odi_NotGood, .func (PySem.W.fnOf "__init__" "NotGood.__init__" (defArgs (initOf s_NotGood)) (defBody (initOf s_NotGood)) (defScope (initOf s_NotGood)) .none kVi_NotGood dci_NotGood pmi_NotGood ani_NotGood cdi_NotGood cti_NotGood), sli_NotGood⟩)
    (ci_NotGood : PySem.W.codeIn K cdi_NotGood "NotGood.__init__" = true)
    (ki_NotGood : PySem.W.keepIn K (.ref fi_NotGood) = true)
    (kC_NotGood : PySem.W.keepIn K (.ref C_NotGood) = true)
    (eC_NotGood : PySem.W.subIn K (.ref C_NotGood) (.type "BaseException") = some true)
    (tC_NotGood : PySem.W.typeIn K (.ref C_NotGood) = some (.type "type"))
    (hC_NotGood : PySem.W.hasDictIn K C_NotGood = true)
    (iC_NotGood : PySem.W.isClsIn K C_NotGood = true)
    (sC_NotGood : PySem.W.subIn K (.ref C_NotGood) (.ref C_NotGood) = some true)
    (aC_NoAccount : PySem.W.nsIn K mainGlobals "NoAccount" = some (some (.ref C_NoAccount)))
    (xL_NoAccount : K.lookup C_NoAccount = some (excClassObj nm_NoAccount q_NoAccount C_NoAccount N_NoAccount bs_NoAccount [.ref CB0_NoAccount, .type "ValueError", .type "Exception", .type "BaseException", .type "object"] true sn_NoAccount sub_NoAccount ab_NoAccount col_NoAccount dd_NoAccount m0_NoAccount m1_NoAccount m2_NoAccount m3_NoAccount m5_NoAccount "ValueError.__new__"))
    (sa_NoAccount : PySem.W.findIn K (.ref C_NoAccount) "__setattr__" = some (some (.builtin "object.__setattr__")))
    (ga_NoAccount : PySem.W.findIn K (.ref C_NoAccount) "__getattribute__" = some (some (.builtin "BaseException.__getattribute__")))
    (gg_NoAccount : PySem.W.findIn K (.ref C_NoAccount) "__getattr__" = some none)
    (nf_NoAccount : PySem.W.findIn K (.ref C_NoAccount) "row" = some none)
    (ai_NoAccount : PySem.W.findIn K (.ref C_NoAccount) "__init__" = some (some (.ref fi_NoAccount)))
    (ti_NoAccount : PySem.W.typeIn K (.ref fi_NoAccount) = some (.type "function"))
    (li_NoAccount : K.lookup fi_NoAccount = some ⟨oci_NoAccount, odi_NoAccount, .func (PySem.W.fnOf "__init__" "NoAccount.__init__" (defArgs (initOf s_NoAccount)) (defBody (initOf s_NoAccount)) (defScope (initOf s_NoAccount)) .none kVi_NoAccount dci_NoAccount pmi_NoAccount ani_NoAccount cdi_NoAccount cti_NoAccount), sli_NoAccount⟩)
    (ci_NoAccount : PySem.W.codeIn K cdi_NoAccount "NoAccount.__init__" = true)
    (ki_NoAccount : PySem.W.keepIn K (.ref fi_NoAccount) = true)
    (kC_NoAccount : PySem.W.keepIn K (.ref C_NoAccount) = true)
    (eC_NoAccount : PySem.W.subIn K (.ref C_NoAccount) (.type "BaseException") = some true)
    (tC_NoAccount : PySem.W.typeIn K (.ref C_NoAccount) = some (.type "type"))
    (hC_NoAccount : PySem.W.hasDictIn K C_NoAccount = true)
    (iC_NoAccount : PySem.W.isClsIn K C_NoAccount = true)
    (sC_NoAccount : PySem.W.subIn K (.ref C_NoAccount) (.ref C_NoAccount) = some true)
    (aC_Pumped : PySem.W.nsIn K mainGlobals "Pumped" = some (some (.ref C_Pumped)))
    (xL_Pumped : K.lookup C_Pumped = some (excClassObj nm_Pumped q_Pumped C_Pumped N_Pumped bs_Pumped [.ref CB0_Pumped, .type "ValueError", .type "Exception", .type "BaseException", .type "object"] true sn_Pumped sub_Pumped ab_Pumped col_Pumped dd_Pumped m0_Pumped m1_Pumped m2_Pumped m3_Pumped m5_Pumped "ValueError.__new__"))
    (sa_Pumped : PySem.W.findIn K (.ref C_Pumped) "__setattr__" = some (some (.builtin "object.__setattr__")))
    (ga_Pumped : PySem.W.findIn K (.ref C_Pumped) "__getattribute__" = some (some (.builtin "BaseException.__getattribute__")))
    (gg_Pumped : PySem.W.findIn K (.ref C_Pumped) "__getattr__" = some none)
    (nf_Pumped : PySem.W.findIn K (.ref C_Pumped) "account" = some none)
    (ai_Pumped : PySem.W.findIn K (.ref C_Pumped) "__init__" = some (some (.ref fi_Pumped)))
    (ti_Pumped : PySem.W.typeIn K (.ref fi_Pumped) = some (.type "function"))
    (li_Pumped : K.lookup fi_Pumped = some ⟨oci_Pumped, odi_Pumped, .func (PySem.W.fnOf "__init__" "Pumped.__init__" (defArgs (initOf s_Pumped)) (defBody (initOf s_Pumped)) (defScope (initOf s_Pumped)) .none kVi_Pumped dci_Pumped pmi_Pumped ani_Pumped cdi_Pumped cti_Pumped), sli_Pumped⟩)
    (ci_Pumped : PySem.W.codeIn K cdi_Pumped "Pumped.__init__" = true)
    (ki_Pumped : PySem.W.keepIn K (.ref fi_Pumped) = true)
    (kC_Pumped : PySem.W.keepIn K (.ref C_Pumped) = true)
    (eC_Pumped : PySem.W.subIn K (.ref C_Pumped) (.type "BaseException") = some true)
    (tC_Pumped : PySem.W.typeIn K (.ref C_Pumped) = some (.type "type"))
    (hC_Pumped : PySem.W.hasDictIn K C_Pumped = true)
    (iC_Pumped : PySem.W.isClsIn K C_Pumped = true)
    (sC_Pumped : PySem.W.subIn K (.ref C_Pumped) (.ref C_Pumped) = some true)
    (aC_BadDeed : PySem.W.nsIn K mainGlobals "BadDeed" = some (some (.ref C_BadDeed)))
    (xL_BadDeed : K.lookup C_BadDeed = some (excClassObj nm_BadDeed q_BadDeed C_BadDeed N_BadDeed bs_BadDeed [.ref CB0_BadDeed, .type "ValueError", .type "Exception", .type "BaseException", .type "object"] true sn_BadDeed sub_BadDeed ab_BadDeed col_BadDeed dd_BadDeed m0_BadDeed m1_BadDeed m2_BadDeed m3_BadDeed m5_BadDeed "ValueError.__new__"))
    (sa_BadDeed : PySem.W.findIn K (.ref C_BadDeed) "__setattr__" = some (some (.builtin "object.__setattr__")))
    (ga_BadDeed : PySem.W.findIn K (.ref C_BadDeed) "__getattribute__" = some (some (.builtin "BaseException.__getattribute__")))
    (gg_BadDeed : PySem.W.findIn K (.ref C_BadDeed) "__getattr__" = some none)
    (nf_BadDeed : PySem.W.findIn K (.ref C_BadDeed) "number" = some none)
    (ai_BadDeed : PySem.W.findIn K (.ref C_BadDeed) "__init__" = some (some (.ref fi_BadDeed)))
    (ti_BadDeed : PySem.W.typeIn K (.ref fi_BadDeed) = some (.type "function"))
    (li_BadDeed : K.lookup fi_BadDeed = some ⟨oci_BadDeed, odi_BadDeed, .func (PySem.W.fnOf "__init__" "BadDeed.__init__" (defArgs (initOf s_BadDeed)) (defBody (initOf s_BadDeed)) (defScope (initOf s_BadDeed)) .none kVi_BadDeed dci_BadDeed pmi_BadDeed ani_BadDeed cdi_BadDeed cti_BadDeed), sli_BadDeed⟩)
    (ci_BadDeed : PySem.W.codeIn K cdi_BadDeed "BadDeed.__init__" = true)
    (ki_BadDeed : PySem.W.keepIn K (.ref fi_BadDeed) = true)
    (kC_BadDeed : PySem.W.keepIn K (.ref C_BadDeed) = true)
    (eC_BadDeed : PySem.W.subIn K (.ref C_BadDeed) (.type "BaseException") = some true)
    (tC_BadDeed : PySem.W.typeIn K (.ref C_BadDeed) = some (.type "type"))
    (hC_BadDeed : PySem.W.hasDictIn K C_BadDeed = true)
    (iC_BadDeed : PySem.W.isClsIn K C_BadDeed = true)
    (sC_BadDeed : PySem.W.subIn K (.ref C_BadDeed) (.ref C_BadDeed) = some true)
    (aC_BadOrder : PySem.W.nsIn K mainGlobals "BadOrder" = some (some (.ref C_BadOrder)))
    (xL_BadOrder : K.lookup C_BadOrder = some (excClassObj nm_BadOrder q_BadOrder C_BadOrder N_BadOrder bs_BadOrder [.ref CB0_BadOrder, .type "ValueError", .type "Exception", .type "BaseException", .type "object"] true sn_BadOrder sub_BadOrder ab_BadOrder col_BadOrder dd_BadOrder m0_BadOrder m1_BadOrder m2_BadOrder m3_BadOrder m5_BadOrder "ValueError.__new__"))
    (sa_BadOrder : PySem.W.findIn K (.ref C_BadOrder) "__setattr__" = some (some (.builtin "object.__setattr__")))
    (ga_BadOrder : PySem.W.findIn K (.ref C_BadOrder) "__getattribute__" = some (some (.builtin "BaseException.__getattribute__")))
    (gg_BadOrder : PySem.W.findIn K (.ref C_BadOrder) "__getattr__" = some none)
    (nf_BadOrder : PySem.W.findIn K (.ref C_BadOrder) "number" = some none)
    (ai_BadOrder : PySem.W.findIn K (.ref C_BadOrder) "__init__" = some (some (.ref fi_BadOrder)))
    (ti_BadOrder : PySem.W.typeIn K (.ref fi_BadOrder) = some (.type "function"))
    (li_BadOrder : K.lookup fi_BadOrder = some ⟨oci_BadOrder, odi_BadOrder, .func (PySem.W.fnOf "__init__" "BadOrder.__init__" (defArgs (initOf s_BadOrder)) (defBody (initOf s_BadOrder)) (defScope (initOf s_BadOrder)) .none kVi_BadOrder dci_BadOrder pmi_BadOrder ani_BadOrder cdi_BadOrder cti_BadOrder), sli_BadOrder⟩)
    (ci_BadOrder : PySem.W.codeIn K cdi_BadOrder "BadOrder.__init__" = true)
    (ki_BadOrder : PySem.W.keepIn K (.ref fi_BadOrder) = true)
    (kC_BadOrder : PySem.W.keepIn K (.ref C_BadOrder) = true)
    (eC_BadOrder : PySem.W.subIn K (.ref C_BadOrder) (.type "BaseException") = some true)
    (tC_BadOrder : PySem.W.typeIn K (.ref C_BadOrder) = some (.type "type"))
    (hC_BadOrder : PySem.W.hasDictIn K C_BadOrder = true)
    (iC_BadOrder : PySem.W.isClsIn K C_BadOrder = true)
    (sC_BadOrder : PySem.W.subIn K (.ref C_BadOrder) (.ref C_BadOrder) = some true)
    (aC_BadText : PySem.W.nsIn K mainGlobals "BadText" = some (some (.ref C_BadText)))
    (xL_BadText : K.lookup C_BadText = some (excClassObj nm_BadText q_BadText C_BadText N_BadText bs_BadText [.ref CB0_BadText, .type "ValueError", .type "Exception", .type "BaseException", .type "object"] true sn_BadText sub_BadText ab_BadText col_BadText dd_BadText m0_BadText m1_BadText m2_BadText m3_BadText m5_BadText "ValueError.__new__"))
    (sa_BadText : PySem.W.findIn K (.ref C_BadText) "__setattr__" = some (some (.builtin "object.__setattr__")))
    (ga_BadText : PySem.W.findIn K (.ref C_BadText) "__getattribute__" = some (some (.builtin "BaseException.__getattribute__")))
    (gg_BadText : PySem.W.findIn K (.ref C_BadText) "__getattr__" = some none)
    (nf_BadText : PySem.W.findIn K (.ref C_BadText) "place" = some none)
    (ai_BadText : PySem.W.findIn K (.ref C_BadText) "__init__" = some (some (.ref fi_BadText)))
    (ti_BadText : PySem.W.typeIn K (.ref fi_BadText) = some (.type "function"))
    (li_BadText : K.lookup fi_BadText = some ⟨oci_BadText, odi_BadText, .func (PySem.W.fnOf "__init__" "BadText.__init__" (defArgs (initOf s_BadText)) (defBody (initOf s_BadText)) (defScope (initOf s_BadText)) .none kVi_BadText dci_BadText pmi_BadText ani_BadText cdi_BadText cti_BadText), sli_BadText⟩)
    (ci_BadText : PySem.W.codeIn K cdi_BadText "BadText.__init__" = true)
    (ki_BadText : PySem.W.keepIn K (.ref fi_BadText) = true)
    (kC_BadText : PySem.W.keepIn K (.ref C_BadText) = true)
    (eC_BadText : PySem.W.subIn K (.ref C_BadText) (.type "BaseException") = some true)
    (tC_BadText : PySem.W.typeIn K (.ref C_BadText) = some (.type "type"))
    (hC_BadText : PySem.W.hasDictIn K C_BadText = true)
    (iC_BadText : PySem.W.isClsIn K C_BadText = true)
    (sC_BadText : PySem.W.subIn K (.ref C_BadText) (.ref C_BadText) = some true)
    (aC_BadAct : PySem.W.nsIn K mainGlobals "BadAct" = some (some (.ref C_BadAct)))
    (xL_BadAct : K.lookup C_BadAct = some (excClassObj nm_BadAct q_BadAct C_BadAct N_BadAct bs_BadAct [.ref CB0_BadAct, .type "ValueError", .type "Exception", .type "BaseException", .type "object"] true sn_BadAct sub_BadAct ab_BadAct col_BadAct dd_BadAct m0_BadAct m1_BadAct m2_BadAct m3_BadAct m5_BadAct "ValueError.__new__"))
    (sa_BadAct : PySem.W.findIn K (.ref C_BadAct) "__setattr__" = some (some (.builtin "object.__setattr__")))
    (ga_BadAct : PySem.W.findIn K (.ref C_BadAct) "__getattribute__" = some (some (.builtin "BaseException.__getattribute__")))
    (gg_BadAct : PySem.W.findIn K (.ref C_BadAct) "__getattr__" = some none)
    (nf_BadAct : PySem.W.findIn K (.ref C_BadAct) "word" = some none)
    (ai_BadAct : PySem.W.findIn K (.ref C_BadAct) "__init__" = some (some (.ref fi_BadAct)))
    (ti_BadAct : PySem.W.typeIn K (.ref fi_BadAct) = some (.type "function"))
    (li_BadAct : K.lookup fi_BadAct = some ⟨oci_BadAct, odi_BadAct, .func (PySem.W.fnOf "__init__" "BadAct.__init__" (defArgs (initOf s_BadAct)) (defBody (initOf s_BadAct)) (defScope (initOf s_BadAct)) .none kVi_BadAct dci_BadAct pmi_BadAct ani_BadAct cdi_BadAct cti_BadAct), sli_BadAct⟩)
    (ci_BadAct : PySem.W.codeIn K cdi_BadAct "BadAct.__init__" = true)
    (ki_BadAct : PySem.W.keepIn K (.ref fi_BadAct) = true)
    (kC_BadAct : PySem.W.keepIn K (.ref C_BadAct) = true)
    (eC_BadAct : PySem.W.subIn K (.ref C_BadAct) (.type "BaseException") = some true)
    (tC_BadAct : PySem.W.typeIn K (.ref C_BadAct) = some (.type "type"))
    (hC_BadAct : PySem.W.hasDictIn K C_BadAct = true)
    (iC_BadAct : PySem.W.isClsIn K C_BadAct = true)
    (sC_BadAct : PySem.W.subIn K (.ref C_BadAct) (.ref C_BadAct) = some true)
    (aC_UnknownName : PySem.W.nsIn K mainGlobals "UnknownName" = some (some (.ref C_UnknownName)))
    (xL_UnknownName : K.lookup C_UnknownName = some (excClassObj nm_UnknownName q_UnknownName C_UnknownName N_UnknownName bs_UnknownName [.ref CB0_UnknownName, .type "LookupError", .type "Exception", .type "BaseException", .type "object"] true sn_UnknownName sub_UnknownName ab_UnknownName col_UnknownName dd_UnknownName m0_UnknownName m1_UnknownName m2_UnknownName m3_UnknownName m5_UnknownName "LookupError.__new__"))
    (sa_UnknownName : PySem.W.findIn K (.ref C_UnknownName) "__setattr__" = some (some (.builtin "object.__setattr__")))
    (ga_UnknownName : PySem.W.findIn K (.ref C_UnknownName) "__getattribute__" = some (some (.builtin "BaseException.__getattribute__")))
    (gg_UnknownName : PySem.W.findIn K (.ref C_UnknownName) "__getattr__" = some none)
    (nf_UnknownName : PySem.W.findIn K (.ref C_UnknownName) "name" = some none)
    (ai_UnknownName : PySem.W.findIn K (.ref C_UnknownName) "__init__" = some (some (.ref fi_UnknownName)))
    (ti_UnknownName : PySem.W.typeIn K (.ref fi_UnknownName) = some (.type "function"))
    (li_UnknownName : K.lookup fi_UnknownName = some ⟨oci_UnknownName, odi_UnknownName, .func (PySem.W.fnOf "__init__" "UnknownName.__init__" (defArgs (initOf s_UnknownName)) (defBody (initOf s_UnknownName)) (defScope (initOf s_UnknownName)) .none kVi_UnknownName dci_UnknownName pmi_UnknownName ani_UnknownName cdi_UnknownName cti_UnknownName), sli_UnknownName⟩)
    (ci_UnknownName : PySem.W.codeIn K cdi_UnknownName "UnknownName.__init__" = true)
    (ki_UnknownName : PySem.W.keepIn K (.ref fi_UnknownName) = true)
    (kC_UnknownName : PySem.W.keepIn K (.ref C_UnknownName) = true)
    (eC_UnknownName : PySem.W.subIn K (.ref C_UnknownName) (.type "BaseException") = some true)
    (tC_UnknownName : PySem.W.typeIn K (.ref C_UnknownName) = some (.type "type"))
    (hC_UnknownName : PySem.W.hasDictIn K C_UnknownName = true)
    (iC_UnknownName : PySem.W.isClsIn K C_UnknownName = true)
    (sC_UnknownName : PySem.W.subIn K (.ref C_UnknownName) (.ref C_UnknownName) = some true)
    {C_UnlikeBooks : Addr} (aC_UnlikeBooks : PySem.W.nsIn K mainGlobals "UnlikeBooks" = some (some (.ref C_UnlikeBooks))) (kr_ex_UnlikeBooks : PySem.W.excIn K C_UnlikeBooks PySem.HandSPX.veTail "ValueError.__new__" = true) (kC_UnlikeBooks : PySem.W.keepIn K (.ref C_UnlikeBooks) = true)
    {C_TooGreat : Addr} (aC_TooGreat : PySem.W.nsIn K mainGlobals "TooGreat" = some (some (.ref C_TooGreat))) (kr_ex_TooGreat : PySem.W.excIn K C_TooGreat PySem.HandSPX.veTail "ValueError.__new__" = true) (kC_TooGreat : PySem.W.keepIn K (.ref C_TooGreat) = true)
    {C_NothingDone : Addr} (aC_NothingDone : PySem.W.nsIn K mainGlobals "NothingDone" = some (some (.ref C_NothingDone))) (kr_ex_NothingDone : PySem.W.excIn K C_NothingDone PySem.HandSPX.veTail "ValueError.__new__" = true) (kC_NothingDone : PySem.W.keepIn K (.ref C_NothingDone) = true)
    {C_BarterError : Addr} (aC_BarterError : PySem.W.nsIn K mainGlobals "BarterError" = some (some (.ref C_BarterError)))
    {C_NameMissing : Addr} (aC_NameMissing : PySem.W.nsIn K mainGlobals "NameMissing" = some (some (.ref C_NameMissing)))
    (kr_kt : kitT K [.ref C_UnlikeBooks, .ref C_TooGreat, .ref C_NothingDone, .ref C_BadBook, .ref C_BadStock, .ref C_BadTree, .ref C_BadAccount, .ref C_BadPrices, .ref C_BadMade, .ref C_NotGood, .ref C_NoAccount, .ref C_Pumped, .ref C_BadDeed, .ref C_BadOrder, .ref C_BadText, .ref C_BadAct, .ref C_UnknownName, .ref C_BarterError, .type "ValueError", .ref C_NameMissing, .type "LookupError", .type "KeyError", .type "IndexError"] [C_UnlikeBooks, C_TooGreat, C_NothingDone, C_BadBook, C_BadStock, C_BadTree, C_BadAccount, C_BadPrices, C_BadMade, C_NotGood, C_NoAccount, C_Pumped, C_BadDeed, C_BadOrder, C_BadText, C_BadAct, C_UnknownName] (rows17) = true)
    (zn_IndexError : PySem.W.nsIn K mainGlobals "IndexError" = some none)
    (zn_KeyError : PySem.W.nsIn K mainGlobals "KeyError" = some none)
    (zn_LookupError : PySem.W.nsIn K mainGlobals "LookupError" = some none)
    (zn_ValueError : PySem.W.nsIn K mainGlobals "ValueError" = some none)
    (zn_abs : PySem.W.nsIn K mainGlobals "abs" = some none)
    (zn_int : PySem.W.nsIn K mainGlobals "int" = some none)
    (zn_isinstance : PySem.W.nsIn K mainGlobals "isinstance" = some none)
    (zn_len : PySem.W.nsIn K mainGlobals "len" = some none)
    (zn_max : PySem.W.nsIn K mainGlobals "max" = some none)
    (zn_range : PySem.W.nsIn K mainGlobals "range" = some none)
    (zn_repr : PySem.W.nsIn K mainGlobals "repr" = some none)
    (zn_tuple : PySem.W.nsIn K mainGlobals "tuple" = some none) :
    ∃ T : Tx K mg, T.a_law = fa ∧ (∀ (s : Shared) (v : Value), BindsTo s T.fd_law ⟨[v], []⟩ [("_law_script", v)]) := by
  have e := hfa.symm.trans (PySem.W.mg_of X G a_law)
  cases e
  have F_law_source := fun_mk (st := s_law_source) l_law_source c_law_source k_law_source
  have b_law_source := F_law_source.binds (ps := ["_law_script"]) fun _ _ _ _ _ _ us hl => match us, hl with | [_], _ => rfl
  have F_law_pick := fun_mk (st := s_law_pick) l_law_pick c_law_pick k_law_pick
  have b_law_pick := F_law_pick.binds (ps := ["_law_source_here", "_law_many"]) fun _ _ _ _ _ _ us hl => match us, hl with | [_, _], _ => rfl
  have F_law_kinds := fun_mk (st := s_law_kinds) l_law_kinds c_law_kinds k_law_kinds
  have b_law_kinds := F_law_kinds.binds (ps := ["_law_e"]) fun _ _ _ _ _ _ us hl => match us, hl with | [_], _ => rfl
  have F_law_bases := fun_mk (st := s_law_bases) l_law_bases c_law_bases k_law_bases
  have b_law_bases := F_law_bases.binds (ps := ["_law_e"]) fun _ _ _ _ _ _ us hl => match us, hl with | [_], _ => rfl
  have F_law_every := fun_mk (st := s_law_every) l_law_every c_law_every k_law_every
  have b_law_every := F_law_every.binds (ps := ["_law_word", "_law_number", "_law_some", "_law_other"]) fun _ _ _ _ _ _ us hl => match us, hl with | [_, _, _, _], _ => rfl
  have F_law_kept := fun_mk (st := s_law_kept) l_law_kept c_law_kept k_law_kept
  have b_law_kept := F_law_kept.binds (ps := ["_law_every_here", "_law_word", "_law_number", "_law_some", "_law_other"]) fun _ _ _ _ _ _ us hl => match us, hl with | [_, _, _, _, _], _ => rfl
  have F_law := fun_mk (st := s_law) l_law c_law k_law
  have b_law := F_law.binds (ps := ["_law_script"]) fun _ _ _ _ _ _ us hl => match us, hl with | [_], _ => rfl
  have Fi_BadBook := fun_mk (st := initOf s_BadBook) li_BadBook ci_BadBook ki_BadBook
  have bi_BadBook := Fi_BadBook.binds (ps := ["self", "path"]) fun _ _ _ _ _ _ us hl => match us, hl with | [_, _], _ => rfl
  have Fi_BadStock := fun_mk (st := initOf s_BadStock) li_BadStock ci_BadStock ki_BadStock
  have bi_BadStock := Fi_BadStock.binds (ps := ["self", "path"]) fun _ _ _ _ _ _ us hl => match us, hl with | [_, _], _ => rfl
  have Fi_BadTree := fun_mk (st := initOf s_BadTree) li_BadTree ci_BadTree ki_BadTree
  have bi_BadTree := Fi_BadTree.binds (ps := ["self", "path"]) fun _ _ _ _ _ _ us hl => match us, hl with | [_, _], _ => rfl
  have Fi_BadAccount := fun_mk (st := initOf s_BadAccount) li_BadAccount ci_BadAccount ki_BadAccount
  have bi_BadAccount := Fi_BadAccount.binds (ps := ["self", "path"]) fun _ _ _ _ _ _ us hl => match us, hl with | [_, _], _ => rfl
  have Fi_BadPrices := fun_mk (st := initOf s_BadPrices) li_BadPrices ci_BadPrices ki_BadPrices
  have bi_BadPrices := Fi_BadPrices.binds (ps := ["self", "path"]) fun _ _ _ _ _ _ us hl => match us, hl with | [_, _], _ => rfl
  have Fi_BadMade := fun_mk (st := initOf s_BadMade) li_BadMade ci_BadMade ki_BadMade
  have bi_BadMade := Fi_BadMade.binds (ps := ["self", "path"]) fun _ _ _ _ _ _ us hl => match us, hl with | [_, _], _ => rfl
  have Fi_NotGood := fun_mk (st := initOf s_NotGood) li_NotGood ci_NotGood ki_NotGood
  have bi_NotGood := Fi_NotGood.binds (ps := ["self", "square"]) fun _ _ _ _ _ _ us hl => match us, hl with | [_, _], _ => rfl
  have Fi_NoAccount := fun_mk (st := initOf s_NoAccount) li_NoAccount ci_NoAccount ki_NoAccount
  have bi_NoAccount := Fi_NoAccount.binds (ps := ["self", "row"]) fun _ _ _ _ _ _ us hl => match us, hl with | [_, _], _ => rfl
  have Fi_Pumped := fun_mk (st := initOf s_Pumped) li_Pumped ci_Pumped ki_Pumped
  have bi_Pumped := Fi_Pumped.binds (ps := ["self", "account"]) fun _ _ _ _ _ _ us hl => match us, hl with | [_, _], _ => rfl
  have Fi_BadDeed := fun_mk (st := initOf s_BadDeed) li_BadDeed ci_BadDeed ki_BadDeed
  have bi_BadDeed := Fi_BadDeed.binds (ps := ["self", "number"]) fun _ _ _ _ _ _ us hl => match us, hl with | [_, _], _ => rfl
  have Fi_BadOrder := fun_mk (st := initOf s_BadOrder) li_BadOrder ci_BadOrder ki_BadOrder
  have bi_BadOrder := Fi_BadOrder.binds (ps := ["self", "number"]) fun _ _ _ _ _ _ us hl => match us, hl with | [_, _], _ => rfl
  have Fi_BadText := fun_mk (st := initOf s_BadText) li_BadText ci_BadText ki_BadText
  have bi_BadText := Fi_BadText.binds (ps := ["self", "place"]) fun _ _ _ _ _ _ us hl => match us, hl with | [_, _], _ => rfl
  have Fi_BadAct := fun_mk (st := initOf s_BadAct) li_BadAct ci_BadAct ki_BadAct
  have bi_BadAct := Fi_BadAct.binds (ps := ["self", "word"]) fun _ _ _ _ _ _ us hl => match us, hl with | [_, _], _ => rfl
  have Fi_UnknownName := fun_mk (st := initOf s_UnknownName) li_UnknownName ci_UnknownName ki_UnknownName
  have bi_UnknownName := Fi_UnknownName.binds (ps := ["self", "name"]) fun _ _ _ _ _ _ us hl => match us, hl with | [_, _], _ => rfl
  exact ⟨{ a_law_source := f_law_source, fd_law_source := _, F_law_source := F_law_source, b_law_source := b_law_source, m_law_source := PySem.W.mg_of X G a_law_source, a_law_pick := f_law_pick, fd_law_pick := _, F_law_pick := F_law_pick, b_law_pick := b_law_pick, m_law_pick := PySem.W.mg_of X G a_law_pick, a_law_kinds := f_law_kinds, fd_law_kinds := _, F_law_kinds := F_law_kinds, b_law_kinds := b_law_kinds, m_law_kinds := PySem.W.mg_of X G a_law_kinds, a_law_bases := f_law_bases, fd_law_bases := _, F_law_bases := F_law_bases, b_law_bases := b_law_bases, m_law_bases := PySem.W.mg_of X G a_law_bases, a_law_every := f_law_every, fd_law_every := _, F_law_every := F_law_every, b_law_every := b_law_every, m_law_every := PySem.W.mg_of X G a_law_every, a_law_kept := f_law_kept, fd_law_kept := _, F_law_kept := F_law_kept, b_law_kept := b_law_kept, m_law_kept := PySem.W.mg_of X G a_law_kept, a_law := _, fd_law := _, F_law := F_law, b_law := b_law, m_law := PySem.W.mg_of X G a_law, p_UnlikeBooks := ⟨C_UnlikeBooks, kr_ex_UnlikeBooks, kC_UnlikeBooks, PySem.W.mg_of X G aC_UnlikeBooks⟩, p_TooGreat := ⟨C_TooGreat, kr_ex_TooGreat, kC_TooGreat, PySem.W.mg_of X G aC_TooGreat⟩, p_NothingDone := ⟨C_NothingDone, kr_ex_NothingDone, kC_NothingDone, PySem.W.mg_of X G aC_NothingDone⟩, B_BarterError := C_BarterError, mB_BarterError := PySem.W.mg_of X G aC_BarterError, B_NameMissing := C_NameMissing, mB_NameMissing := PySem.W.mg_of X G aC_NameMissing, kt := kr_kt, n_IndexError := PySem.W.mg_none_of X G zn_IndexError, n_KeyError := PySem.W.mg_none_of X G zn_KeyError, n_LookupError := PySem.W.mg_none_of X G zn_LookupError, n_ValueError := PySem.W.mg_none_of X G zn_ValueError, n_abs := PySem.W.mg_none_of X G zn_abs, n_int := PySem.W.mg_none_of X G zn_int, n_isinstance := PySem.W.mg_none_of X G zn_isinstance, n_len := PySem.W.mg_none_of X G zn_len, n_max := PySem.W.mg_none_of X G zn_max, n_range := PySem.W.mg_none_of X G zn_range, n_repr := PySem.W.mg_none_of X G zn_repr, n_tuple := PySem.W.mg_none_of X G zn_tuple, e_BadBook := { C := C_BadBook, fI := fi_BadBook, fd := _, oex := { cls := ⟨nm_BadBook, q_BadBook, N_BadBook, bs_BadBook, _, sn_BadBook, sub_BadBook, ab_BadBook, col_BadBook, dd_BadBook, m0_BadBook, m1_BadBook, m2_BadBook, m3_BadBook, m5_BadBook, xL_BadBook, rfl⟩, sa := sa_BadBook, exC := eC_BadBook, tyC := tC_BadBook, kC := kC_BadBook }, xf := ⟨ga_BadBook, gg_BadBook, eC_BadBook, hC_BadBook⟩, iC := ai_BadBook, tI := ti_BadBook, noF := nf_BadBook, F := Fi_BadBook, b := bi_BadBook, m := PySem.W.mg_of X G aC_BadBook, te := exm_own eC_BadBook iC_BadBook tC_BadBook sC_BadBook }, e_BadStock := { C := C_BadStock, fI := fi_BadStock, fd := _, oex := { cls := ⟨nm_BadStock, q_BadStock, N_BadStock, bs_BadStock, _, sn_BadStock, sub_BadStock, ab_BadStock, col_BadStock, dd_BadStock, m0_BadStock, m1_BadStock, m2_BadStock, m3_BadStock, m5_BadStock, xL_BadStock, rfl⟩, sa := sa_BadStock, exC := eC_BadStock, tyC := tC_BadStock, kC := kC_BadStock }, xf := ⟨ga_BadStock, gg_BadStock, eC_BadStock, hC_BadStock⟩, iC := ai_BadStock, tI := ti_BadStock, noF := nf_BadStock, F := Fi_BadStock, b := bi_BadStock, m := PySem.W.mg_of X G aC_BadStock, te := exm_own eC_BadStock iC_BadStock tC_BadStock sC_BadStock }, e_BadTree := { C := C_BadTree, fI := fi_BadTree, fd := _, oex := { cls := ⟨nm_BadTree, q_BadTree, N_BadTree, bs_BadTree, _, sn_BadTree, sub_BadTree, ab_BadTree, col_BadTree, dd_BadTree, m0_BadTree, m1_BadTree, m2_BadTree, m3_BadTree, m5_BadTree, xL_BadTree, rfl⟩, sa := sa_BadTree, exC := eC_BadTree, tyC := tC_BadTree, kC := kC_BadTree }, xf := ⟨ga_BadTree, gg_BadTree, eC_BadTree, hC_BadTree⟩, iC := ai_BadTree, tI := ti_BadTree, noF := nf_BadTree, F := Fi_BadTree, b := bi_BadTree, m := PySem.W.mg_of X G aC_BadTree, te := exm_own eC_BadTree iC_BadTree tC_BadTree sC_BadTree }, e_BadAccount := { C := C_BadAccount, fI := fi_BadAccount, fd := _, oex := { cls := ⟨nm_BadAccount, q_BadAccount, N_BadAccount, bs_BadAccount, _, sn_BadAccount, sub_BadAccount, ab_BadAccount, col_BadAccount, dd_BadAccount, m0_BadAccount, m1_BadAccount, m2_BadAccount, m3_BadAccount, m5_BadAccount, xL_BadAccount, rfl⟩, sa := sa_BadAccount, exC := eC_BadAccount, tyC := tC_BadAccount, kC := kC_BadAccount }, xf := ⟨ga_BadAccount, gg_BadAccount, eC_BadAccount, hC_BadAccount⟩, iC := ai_BadAccount, tI := ti_BadAccount, noF := nf_BadAccount, F := Fi_BadAccount, b := bi_BadAccount, m := PySem.W.mg_of X G aC_BadAccount, te := exm_own eC_BadAccount iC_BadAccount tC_BadAccount sC_BadAccount }, e_BadPrices := { C := C_BadPrices, fI := fi_BadPrices, fd := _, oex := { cls := ⟨nm_BadPrices, q_BadPrices, N_BadPrices, bs_BadPrices, _, sn_BadPrices, sub_BadPrices, ab_BadPrices, col_BadPrices, dd_BadPrices, m0_BadPrices, m1_BadPrices, m2_BadPrices, m3_BadPrices, m5_BadPrices, xL_BadPrices, rfl⟩, sa := sa_BadPrices, exC := eC_BadPrices, tyC := tC_BadPrices, kC := kC_BadPrices }, xf := ⟨ga_BadPrices, gg_BadPrices, eC_BadPrices, hC_BadPrices⟩, iC := ai_BadPrices, tI := ti_BadPrices, noF := nf_BadPrices, F := Fi_BadPrices, b := bi_BadPrices, m := PySem.W.mg_of X G aC_BadPrices, te := exm_own eC_BadPrices iC_BadPrices tC_BadPrices sC_BadPrices }, e_BadMade := { C := C_BadMade, fI := fi_BadMade, fd := _, oex := { cls := ⟨nm_BadMade, q_BadMade, N_BadMade, bs_BadMade, _, sn_BadMade, sub_BadMade, ab_BadMade, col_BadMade, dd_BadMade, m0_BadMade, m1_BadMade, m2_BadMade, m3_BadMade, m5_BadMade, xL_BadMade, rfl⟩, sa := sa_BadMade, exC := eC_BadMade, tyC := tC_BadMade, kC := kC_BadMade }, xf := ⟨ga_BadMade, gg_BadMade, eC_BadMade, hC_BadMade⟩, iC := ai_BadMade, tI := ti_BadMade, noF := nf_BadMade, F := Fi_BadMade, b := bi_BadMade, m := PySem.W.mg_of X G aC_BadMade, te := exm_own eC_BadMade iC_BadMade tC_BadMade sC_BadMade }, e_NotGood := { C := C_NotGood, fI := fi_NotGood, fd := _, oex := { cls := ⟨nm_NotGood, q_NotGood, N_NotGood, bs_NotGood, _, sn_NotGood, sub_NotGood, ab_NotGood, col_NotGood, dd_NotGood, m0_NotGood, m1_NotGood, m2_NotGood, m3_NotGood, m5_NotGood, xL_NotGood, rfl⟩, sa := sa_NotGood, exC := eC_NotGood, tyC := tC_NotGood, kC := kC_NotGood }, xf := ⟨ga_NotGood, gg_NotGood, eC_NotGood, hC_NotGood⟩, iC := ai_NotGood, tI := ti_NotGood, noF := nf_NotGood, F := Fi_NotGood, b := bi_NotGood, m := PySem.W.mg_of X G aC_NotGood, te := exm_own eC_NotGood iC_NotGood tC_NotGood sC_NotGood }, e_NoAccount := { C := C_NoAccount, fI := fi_NoAccount, fd := _, oex := { cls := ⟨nm_NoAccount, q_NoAccount, N_NoAccount, bs_NoAccount, _, sn_NoAccount, sub_NoAccount, ab_NoAccount, col_NoAccount, dd_NoAccount, m0_NoAccount, m1_NoAccount, m2_NoAccount, m3_NoAccount, m5_NoAccount, xL_NoAccount, rfl⟩, sa := sa_NoAccount, exC := eC_NoAccount, tyC := tC_NoAccount, kC := kC_NoAccount }, xf := ⟨ga_NoAccount, gg_NoAccount, eC_NoAccount, hC_NoAccount⟩, iC := ai_NoAccount, tI := ti_NoAccount, noF := nf_NoAccount, F := Fi_NoAccount, b := bi_NoAccount, m := PySem.W.mg_of X G aC_NoAccount, te := exm_own eC_NoAccount iC_NoAccount tC_NoAccount sC_NoAccount }, e_Pumped := { C := C_Pumped, fI := fi_Pumped, fd := _, oex := { cls := ⟨nm_Pumped, q_Pumped, N_Pumped, bs_Pumped, _, sn_Pumped, sub_Pumped, ab_Pumped, col_Pumped, dd_Pumped, m0_Pumped, m1_Pumped, m2_Pumped, m3_Pumped, m5_Pumped, xL_Pumped, rfl⟩, sa := sa_Pumped, exC := eC_Pumped, tyC := tC_Pumped, kC := kC_Pumped }, xf := ⟨ga_Pumped, gg_Pumped, eC_Pumped, hC_Pumped⟩, iC := ai_Pumped, tI := ti_Pumped, noF := nf_Pumped, F := Fi_Pumped, b := bi_Pumped, m := PySem.W.mg_of X G aC_Pumped, te := exm_own eC_Pumped iC_Pumped tC_Pumped sC_Pumped }, e_BadDeed := { C := C_BadDeed, fI := fi_BadDeed, fd := _, oex := { cls := ⟨nm_BadDeed, q_BadDeed, N_BadDeed, bs_BadDeed, _, sn_BadDeed, sub_BadDeed, ab_BadDeed, col_BadDeed, dd_BadDeed, m0_BadDeed, m1_BadDeed, m2_BadDeed, m3_BadDeed, m5_BadDeed, xL_BadDeed, rfl⟩, sa := sa_BadDeed, exC := eC_BadDeed, tyC := tC_BadDeed, kC := kC_BadDeed }, xf := ⟨ga_BadDeed, gg_BadDeed, eC_BadDeed, hC_BadDeed⟩, iC := ai_BadDeed, tI := ti_BadDeed, noF := nf_BadDeed, F := Fi_BadDeed, b := bi_BadDeed, m := PySem.W.mg_of X G aC_BadDeed, te := exm_own eC_BadDeed iC_BadDeed tC_BadDeed sC_BadDeed }, e_BadOrder := { C := C_BadOrder, fI := fi_BadOrder, fd := _, oex := { cls := ⟨nm_BadOrder, q_BadOrder, N_BadOrder, bs_BadOrder, _, sn_BadOrder, sub_BadOrder, ab_BadOrder, col_BadOrder, dd_BadOrder, m0_BadOrder, m1_BadOrder, m2_BadOrder, m3_BadOrder, m5_BadOrder, xL_BadOrder, rfl⟩, sa := sa_BadOrder, exC := eC_BadOrder, tyC := tC_BadOrder, kC := kC_BadOrder }, xf := ⟨ga_BadOrder, gg_BadOrder, eC_BadOrder, hC_BadOrder⟩, iC := ai_BadOrder, tI := ti_BadOrder, noF := nf_BadOrder, F := Fi_BadOrder, b := bi_BadOrder, m := PySem.W.mg_of X G aC_BadOrder, te := exm_own eC_BadOrder iC_BadOrder tC_BadOrder sC_BadOrder }, e_BadText := { C := C_BadText, fI := fi_BadText, fd := _, oex := { cls := ⟨nm_BadText, q_BadText, N_BadText, bs_BadText, _, sn_BadText, sub_BadText, ab_BadText, col_BadText, dd_BadText, m0_BadText, m1_BadText, m2_BadText, m3_BadText, m5_BadText, xL_BadText, rfl⟩, sa := sa_BadText, exC := eC_BadText, tyC := tC_BadText, kC := kC_BadText }, xf := ⟨ga_BadText, gg_BadText, eC_BadText, hC_BadText⟩, iC := ai_BadText, tI := ti_BadText, noF := nf_BadText, F := Fi_BadText, b := bi_BadText, m := PySem.W.mg_of X G aC_BadText, te := exm_own eC_BadText iC_BadText tC_BadText sC_BadText }, e_BadAct := { C := C_BadAct, fI := fi_BadAct, fd := _, oex := { cls := ⟨nm_BadAct, q_BadAct, N_BadAct, bs_BadAct, _, sn_BadAct, sub_BadAct, ab_BadAct, col_BadAct, dd_BadAct, m0_BadAct, m1_BadAct, m2_BadAct, m3_BadAct, m5_BadAct, xL_BadAct, rfl⟩, sa := sa_BadAct, exC := eC_BadAct, tyC := tC_BadAct, kC := kC_BadAct }, xf := ⟨ga_BadAct, gg_BadAct, eC_BadAct, hC_BadAct⟩, iC := ai_BadAct, tI := ti_BadAct, noF := nf_BadAct, F := Fi_BadAct, b := bi_BadAct, m := PySem.W.mg_of X G aC_BadAct, te := exm_own eC_BadAct iC_BadAct tC_BadAct sC_BadAct }, e_UnknownName := { C := C_UnknownName, fI := fi_UnknownName, fd := _, oex := { cls := ⟨nm_UnknownName, q_UnknownName, N_UnknownName, bs_UnknownName, _, sn_UnknownName, sub_UnknownName, ab_UnknownName, col_UnknownName, dd_UnknownName, m0_UnknownName, m1_UnknownName, m2_UnknownName, m3_UnknownName, m5_UnknownName, xL_UnknownName, rfl⟩, sa := sa_UnknownName, exC := eC_UnknownName, tyC := tC_UnknownName, kC := kC_UnknownName }, xf := ⟨ga_UnknownName, gg_UnknownName, eC_UnknownName, hC_UnknownName⟩, iC := ai_UnknownName, tI := ti_UnknownName, noF := nf_UnknownName, F := Fi_UnknownName, b := bi_UnknownName, m := PySem.W.mg_of X G aC_UnknownName, te := exm_own eC_UnknownName iC_UnknownName tC_UnknownName sC_UnknownName } }, rfl, fun s v => .of_eq rfl⟩
theorem walk {l : PySem.W.OpenLaw} {q : Program} {loose : List Str} {XP : (Str → Option Value) → Heap → Prop} {YP : World → Heap → Prop} {d : DefRec} {K : Params → PySem.W.Frag} (hn : l.most = some 63) (hdf : d.params.defaults = [])
    (hY : ∀ (w : World) (h : Heap), YP w h → (K w.params).In h)
    (F : ∀ (w : World) (mg : Str → Option Value) (fa : Addr) (h : Heap), (K w.params).In h → h.Ns mainGlobals mg → mg d.name = some (.ref fa) →
      ∃ fd : FuncData, (∀ (s : Shared) (u : Value), BindsTo s fd ⟨[u], []⟩ [("_law_script", u)]) ∧ ∀ base : Heap, (K w.params).In base → base.Ns mainGlobals mg → FnG l.prog w (K w.params) mg base 30 fa fd ["_law_script"] (spLaw (K w.params))) :
    PySem.W.WalkO q loose XP YP l.row.toRowW d [] (fun f vs => PySem.call f vs) :=
  walk_ofG (n := 63) (k := 30) (x := "_law_script") (sp := fun w => spLaw (K w.params)) hn (by decide) hdf ⟨rfl, by decide, by decide⟩ hY F fun _ _ a ns hl _ hS => ⟨a, ns, rfl, hS, hl, fun _ => rfl⟩
end My
open PySem PySem.W PyProof.Rows
set_option maxRecDepth 100000 in
set_option maxHeartbeats 0 in
theorem PySem.Challenge.cw_eitherbarter_k00_errors_holds : PySem.Challenge.rw_eitherbarter_k00_errors.Holds := by
  w_on; o_law; k_head; (case hw => w_witness2)
  k_fill
  refine My.walk (l := PySem.Challenge.rw_eitherbarter_k00_errors) rfl rfl (fun w h Y => PySem.W.kIn_of Y) ?F
  case F =>
    intro w mg fa h KX G hmg
    refine' Exists.elim (My.tx_mk KX G hmg ?a_law_source ?l_law_source ?c_law_source ?k_law_source ?a_law_pick ?l_law_pick ?c_law_pick ?k_law_pick ?a_law_kinds ?l_law_kinds ?c_law_kinds ?k_law_kinds ?a_law_bases ?l_law_bases ?c_law_bases ?k_law_bases ?a_law_every ?l_law_every ?c_law_every ?k_law_every ?a_law_kept ?l_law_kept ?c_law_kept ?k_law_kept ?a_law ?l_law ?c_law ?k_law ?aC_BadBook ?xL_BadBook ?sa_BadBook ?ga_BadBook ?gg_BadBook ?nf_BadBook ?ai_BadBook ?ti_BadBook ?li_BadBook ?ci_BadBook ?ki_BadBook ?kC_BadBook ?eC_BadBook ?tC_BadBook ?hC_BadBook ?iC_BadBook ?sC_BadBook ?aC_BadStock ?xL_BadStock ?sa_BadStock ?ga_BadStock ?gg_BadStock ?nf_BadStock ?ai_BadStock ?ti_BadStock ?li_BadStock ?ci_BadStock ?ki_BadStock ?kC_BadStock ?eC_BadStock ?tC_BadStock ?hC_BadStock ?iC_BadStock ?sC_BadStock ?aC_BadTree ?xL_BadTree ?sa_BadTree ?ga_BadTree ?gg_BadTree ?nf_BadTree ?ai_BadTree ?ti_BadTree ?li_BadTree ?ci_BadTree ?ki_BadTree ?kC_BadTree ?eC_BadTree ?tC_BadTree ?hC_BadTree ?iC_BadTree ?sC_BadTree ?aC_BadAccount ?xL_BadAccount ?sa_BadAccount ?ga_BadAccount ?gg_BadAccount ?nf_BadAccount ?ai_BadAccount ?ti_BadAccount ?li_BadAccount ?ci_BadAccount ?ki_BadAccount ?kC_BadAccount ?eC_BadAccount ?tC_BadAccount ?hC_BadAccount ?iC_BadAccount ?sC_BadAccount ?aC_BadPrices ?xL_BadPrices ?sa_BadPrices ?ga_BadPrices ?gg_BadPrices ?nf_BadPrices ?ai_BadPrices ?ti_BadPrices ?li_BadPrices ?ci_BadPrices ?ki_BadPrices ?kC_BadPrices ?eC_BadPrices ?tC_BadPrices ?hC_BadPrices ?iC_BadPrices ?sC_BadPrices ?aC_BadMade ?xL_BadMade ?sa_BadMade ?ga_BadMade ?gg_BadMade ?nf_BadMade ?ai_BadMade ?ti_BadMade ?li_BadMade ?ci_BadMade ?ki_BadMade ?kC_BadMade ?eC_BadMade ?tC_BadMade ?hC_BadMade ?iC_BadMade ?sC_BadMade ?aC_NotGood ?xL_NotGood ?sa_NotGood ?ga_NotGood ?gg_NotGood ?nf_NotGood ?ai_NotGood ?ti_NotGood ?li_NotGood ?ci_NotGood ?ki_NotGood ?kC_NotGood ?eC_NotGood ?tC_NotGood ?hC_NotGood ?iC_NotGood ?sC_NotGood ?aC_NoAccount ?xL_NoAccount ?sa_NoAccount ?ga_NoAccount ?gg_NoAccount ?nf_NoAccount ?ai_NoAccount ?ti_NoAccount ?li_NoAccount ?ci_NoAccount ?ki_NoAccount ?kC_NoAccount ?eC_NoAccount ?tC_NoAccount ?hC_NoAccount ?iC_NoAccount ?sC_NoAccount ?aC_Pumped ?xL_Pumped ?sa_Pumped ?ga_Pumped ?gg_Pumped ?nf_Pumped ?ai_Pumped ?ti_Pumped ?li_Pumped ?ci_Pumped ?ki_Pumped ?kC_Pumped ?eC_Pumped ?tC_Pumped ?hC_Pumped ?iC_Pumped ?sC_Pumped ?aC_BadDeed ?xL_BadDeed ?sa_BadDeed ?ga_BadDeed ?gg_BadDeed ?nf_BadDeed ?ai_BadDeed ?ti_BadDeed ?li_BadDeed ?ci_BadDeed ?ki_BadDeed ?kC_BadDeed ?eC_BadDeed ?tC_BadDeed ?hC_BadDeed ?iC_BadDeed ?sC_BadDeed ?aC_BadOrder ?xL_BadOrder ?sa_BadOrder ?ga_BadOrder ?gg_BadOrder ?nf_BadOrder ?ai_BadOrder ?ti_BadOrder ?li_BadOrder ?ci_BadOrder ?ki_BadOrder ?kC_BadOrder ?eC_BadOrder ?tC_BadOrder ?hC_BadOrder ?iC_BadOrder ?sC_BadOrder ?aC_BadText ?xL_BadText ?sa_BadText ?ga_BadText ?gg_BadText ?nf_BadText ?ai_BadText ?ti_BadText ?li_BadText ?ci_BadText ?ki_BadText ?kC_BadText ?eC_BadText ?tC_BadText ?hC_BadText ?iC_BadText ?sC_BadText ?aC_BadAct ?xL_BadAct ?sa_BadAct ?ga_BadAct ?gg_BadAct ?nf_BadAct ?ai_BadAct ?ti_BadAct ?li_BadAct ?ci_BadAct ?ki_BadAct ?kC_BadAct ?eC_BadAct ?tC_BadAct ?hC_BadAct ?iC_BadAct ?sC_BadAct ?aC_UnknownName ?xL_UnknownName ?sa_UnknownName ?ga_UnknownName ?gg_UnknownName ?nf_UnknownName ?ai_UnknownName ?ti_UnknownName ?li_UnknownName ?ci_UnknownName ?ki_UnknownName ?kC_UnknownName ?eC_UnknownName ?tC_UnknownName ?hC_UnknownName ?iC_UnknownName ?sC_UnknownName ?aC_UnlikeBooks ?kr_ex_UnlikeBooks ?kC_UnlikeBooks ?aC_TooGreat ?kr_ex_TooGreat ?kC_TooGreat ?aC_NothingDone ?kr_ex_NothingDone ?kC_NothingDone ?aC_BarterError ?aC_NameMissing ?kr_kt ?zn_IndexError ?zn_KeyError ?zn_LookupError ?zn_ValueError ?zn_abs ?zn_int ?zn_isinstance ?zn_len ?zn_max ?zn_range ?zn_repr ?zn_tuple) (fun T hT => ?fin)
    (case a_law_source => k_is)
    (case l_law_source => k_is)
    (case c_law_source => k_is)
    (case k_law_source => k_is)
    (case a_law_pick => k_is)
    (case l_law_pick => k_is)
    (case c_law_pick => k_is)
    (case k_law_pick => k_is)
    (case a_law_kinds => k_is)
    (case l_law_kinds => k_is)
    (case c_law_kinds => k_is)
    (case k_law_kinds => k_is)
    (case a_law_bases => k_is)
    (case l_law_bases => k_is)
    (case c_law_bases => k_is)
    (case k_law_bases => k_is)
    (case a_law_every => k_is)
    (case l_law_every => k_is)
    (case c_law_every => k_is)
    (case k_law_every => k_is)
    (case a_law_kept => k_is)
    (case l_law_kept => k_is)
    (case c_law_kept => k_is)
    (case k_law_kept => k_is)
    (case a_law => k_is)
    (case l_law => k_is)
    (case c_law => k_is)
    (case k_law => k_is)
    (case aC_BadBook => k_is)
    (case xL_BadBook => k_is)
    (case sa_BadBook => k_is)
    (case ga_BadBook => k_is)
    (case gg_BadBook => k_is)
    (case nf_BadBook => k_is)
    (case ai_BadBook => k_is)
    (case ti_BadBook => k_is)
    (case li_BadBook => k_is)
    (case ci_BadBook => k_is)
    (case ki_BadBook => k_is)
    (case kC_BadBook => k_is)
    (case eC_BadBook => k_is)
    (case tC_BadBook => k_is)
    (case hC_BadBook => k_is)
    (case iC_BadBook => k_is)
    (case sC_BadBook => k_is)
    (case aC_BadStock => k_is)
    (case xL_BadStock => k_is)
    (case sa_BadStock => k_is)
    (case ga_BadStock => k_is)
    (case gg_BadStock => k_is)
    (case nf_BadStock => k_is)
    (case ai_BadStock => k_is)
    (case ti_BadStock => k_is)
    (case li_BadStock => k_is)
    (case ci_BadStock => k_is)
    (case ki_BadStock => k_is)
    (case kC_BadStock => k_is)
    (case eC_BadStock => k_is)
    (case tC_BadStock => k_is)
    (case hC_BadStock => k_is)
    (case iC_BadStock => k_is)
    (case sC_BadStock => k_is)
    (case aC_BadTree => k_is)
    (case xL_BadTree => k_is)
    (case sa_BadTree => k_is)
    (case ga_BadTree => k_is)
    (case gg_BadTree => k_is)
    (case nf_BadTree => k_is)
    (case ai_BadTree => k_is)
    (case ti_BadTree => k_is)
    (case li_BadTree => k_is)
    (case ci_BadTree => k_is)
    (case ki_BadTree => k_is)
    (case kC_BadTree => k_is)
    (case eC_BadTree => k_is)
    (case tC_BadTree => k_is)
    (case hC_BadTree => k_is)
    (case iC_BadTree => k_is)
    (case sC_BadTree => k_is)
    (case aC_BadAccount => k_is)
    (case xL_BadAccount => k_is)
    (case sa_BadAccount => k_is)
    (case ga_BadAccount => k_is)
    (case gg_BadAccount => k_is)
    (case nf_BadAccount => k_is)
    (case ai_BadAccount => k_is)
    (case ti_BadAccount => k_is)
    (case li_BadAccount => k_is)
    (case ci_BadAccount => k_is)
    (case ki_BadAccount => k_is)
    (case kC_BadAccount => k_is)
    (case eC_BadAccount => k_is)
    (case tC_BadAccount => k_is)
    (case hC_BadAccount => k_is)
    (case iC_BadAccount => k_is)
    (case sC_BadAccount => k_is)
    (case aC_BadPrices => k_is)
    (case xL_BadPrices => k_is)
    (case sa_BadPrices => k_is)
    (case ga_BadPrices => k_is)
    (case gg_BadPrices => k_is)
    (case nf_BadPrices => k_is)
    (case ai_BadPrices => k_is)
    (case ti_BadPrices => k_is)
    (case li_BadPrices => k_is)
    (case ci_BadPrices => k_is)
    (case ki_BadPrices => k_is)
    (case kC_BadPrices => k_is)
    (case eC_BadPrices => k_is)
    (case tC_BadPrices => k_is)
    (case hC_BadPrices => k_is)
    (case iC_BadPrices => k_is)
    (case sC_BadPrices => k_is)
    (case aC_BadMade => k_is)
    (case xL_BadMade => k_is)
    (case sa_BadMade => k_is)
    (case ga_BadMade => k_is)
    (case gg_BadMade => k_is)
    (case nf_BadMade => k_is)
    (case ai_BadMade => k_is)
    (case ti_BadMade => k_is)
    (case li_BadMade => k_is)
    (case ci_BadMade => k_is)
    (case ki_BadMade => k_is)
    (case kC_BadMade => k_is)
    (case eC_BadMade => k_is)
    (case tC_BadMade => k_is)
    (case hC_BadMade => k_is)
    (case iC_BadMade => k_is)
    (case sC_BadMade => k_is)
    (case aC_NotGood => k_is)
    (case xL_NotGood => k_is)
    (case sa_NotGood => k_is)
    (case ga_NotGood => k_is)
    (case gg_NotGood => k_is)
    (case nf_NotGood => k_is)
    (case ai_NotGood => k_is)
    (case ti_NotGood => k_is)
    (case li_NotGood => k_is)
    (case ci_NotGood => k_is)
    (case ki_NotGood => k_is)
    (case kC_NotGood => k_is)
    (case eC_NotGood => k_is)
    (case tC_NotGood => k_is)
    (case hC_NotGood => k_is)
    (case iC_NotGood => k_is)
    (case sC_NotGood => k_is)
    (case aC_NoAccount => k_is)
    (case xL_NoAccount => k_is)
    (case sa_NoAccount => k_is)
    (case ga_NoAccount => k_is)
    (case gg_NoAccount => k_is)
    (case nf_NoAccount => k_is)
    (case ai_NoAccount => k_is)
    (case ti_NoAccount => k_is)
    (case li_NoAccount => k_is)
    (case ci_NoAccount => k_is)
    (case ki_NoAccount => k_is)
    (case kC_NoAccount => k_is)
    (case eC_NoAccount => k_is)
    (case tC_NoAccount => k_is)
    (case hC_NoAccount => k_is)
    (case iC_NoAccount => k_is)
    (case sC_NoAccount => k_is)
    (case aC_Pumped => k_is)
    (case xL_Pumped => k_is)
    (case sa_Pumped => k_is)
    (case ga_Pumped => k_is)
    (case gg_Pumped => k_is)
    (case nf_Pumped => k_is)
    (case ai_Pumped => k_is)
    (case ti_Pumped => k_is)
    (case li_Pumped => k_is)
    (case ci_Pumped => k_is)
    (case ki_Pumped => k_is)
    (case kC_Pumped => k_is)
    (case eC_Pumped => k_is)
    (case tC_Pumped => k_is)
    (case hC_Pumped => k_is)
    (case iC_Pumped => k_is)
    (case sC_Pumped => k_is)
    (case aC_BadDeed => k_is)
    (case xL_BadDeed => k_is)
    (case sa_BadDeed => k_is)
    (case ga_BadDeed => k_is)
    (case gg_BadDeed => k_is)
    (case nf_BadDeed => k_is)
    (case ai_BadDeed => k_is)
    (case ti_BadDeed => k_is)
    (case li_BadDeed => k_is)
    (case ci_BadDeed => k_is)
    (case ki_BadDeed => k_is)
    (case kC_BadDeed => k_is)
    (case eC_BadDeed => k_is)
    (case tC_BadDeed => k_is)
    (case hC_BadDeed => k_is)
    (case iC_BadDeed => k_is)
    (case sC_BadDeed => k_is)
    (case aC_BadOrder => k_is)
    (case xL_BadOrder => k_is)
    (case sa_BadOrder => k_is)
    (case ga_BadOrder => k_is)
    (case gg_BadOrder => k_is)
    (case nf_BadOrder => k_is)
    (case ai_BadOrder => k_is)
    (case ti_BadOrder => k_is)
    (case li_BadOrder => k_is)
    (case ci_BadOrder => k_is)
    (case ki_BadOrder => k_is)
    (case kC_BadOrder => k_is)
    (case eC_BadOrder => k_is)
    (case tC_BadOrder => k_is)
    (case hC_BadOrder => k_is)
    (case iC_BadOrder => k_is)
    (case sC_BadOrder => k_is)
    (case aC_BadText => k_is)
    (case xL_BadText => k_is)
    (case sa_BadText => k_is)
    (case ga_BadText => k_is)
    (case gg_BadText => k_is)
    (case nf_BadText => k_is)
    (case ai_BadText => k_is)
    (case ti_BadText => k_is)
    (case li_BadText => k_is)
    (case ci_BadText => k_is)
    (case ki_BadText => k_is)
    (case kC_BadText => k_is)
    (case eC_BadText => k_is)
    (case tC_BadText => k_is)
    (case hC_BadText => k_is)
    (case iC_BadText => k_is)
    (case sC_BadText => k_is)
    (case aC_BadAct => k_is)
    (case xL_BadAct => k_is)
    (case sa_BadAct => k_is)
    (case ga_BadAct => k_is)
    (case gg_BadAct => k_is)
    (case nf_BadAct => k_is)
    (case ai_BadAct => k_is)
    (case ti_BadAct => k_is)
    (case li_BadAct => k_is)
    (case ci_BadAct => k_is)
    (case ki_BadAct => k_is)
    (case kC_BadAct => k_is)
    (case eC_BadAct => k_is)
    (case tC_BadAct => k_is)
    (case hC_BadAct => k_is)
    (case iC_BadAct => k_is)
    (case sC_BadAct => k_is)
    (case aC_UnknownName => k_is)
    (case xL_UnknownName => k_is)
    (case sa_UnknownName => k_is)
    (case ga_UnknownName => k_is)
    (case gg_UnknownName => k_is)
    (case nf_UnknownName => k_is)
    (case ai_UnknownName => k_is)
    (case ti_UnknownName => k_is)
    (case li_UnknownName => k_is)
    (case ci_UnknownName => k_is)
    (case ki_UnknownName => k_is)
    (case kC_UnknownName => k_is)
    (case eC_UnknownName => k_is)
    (case tC_UnknownName => k_is)
    (case hC_UnknownName => k_is)
    (case iC_UnknownName => k_is)
    (case sC_UnknownName => k_is)
    (case aC_UnlikeBooks => k_is)
    (case kr_ex_UnlikeBooks => kernel_rfl)
    (case kC_UnlikeBooks => k_is)
    (case aC_TooGreat => k_is)
    (case kr_ex_TooGreat => kernel_rfl)
    (case kC_TooGreat => k_is)
    (case aC_NothingDone => k_is)
    (case kr_ex_NothingDone => kernel_rfl)
    (case kC_NothingDone => k_is)
    (case aC_BarterError => k_is)
    (case aC_NameMissing => k_is)
    (case kr_kt => kernel_rfl)
    (case zn_IndexError => k_is)
    (case zn_KeyError => k_is)
    (case zn_LookupError => k_is)
    (case zn_ValueError => k_is)
    (case zn_abs => k_is)
    (case zn_int => k_is)
    (case zn_isinstance => k_is)
    (case zn_len => k_is)
    (case zn_max => k_is)
    (case zn_range => k_is)
    (case zn_repr => k_is)
    (case zn_tuple => k_is)
    (case fin => (obtain ⟨e, hb⟩ := hT; subst e; exact ⟨T.fd_law, hb, fun base _ _ => My.ok_law T⟩))
#print axioms PySem.Challenge.cw_eitherbarter_k00_errors_holds
