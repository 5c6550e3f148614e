import PyProof.Rows.All
import Wide.All
import OpenK.AllK
import Wide.FinOn
import HandS.ForMost
import HandS.Gcd
import HandS.Wide
import HandS.IsInst
import HandS.Style
import HandS.Zip
import HandS.Evl
import HandS.ExcInit
import HandS.ExcOwn
import HandS.ExcField
import HandS.WordsExc
import HandS.StrMore
import HandS.Sort
import HandS.DictComp
import HandS.TupMul
import HandS.Walk
import HandS.Conv
import HandS.Flow
import HandS.RaiseMore
import HandS.Deep
import HandS.List
import HandS.Rev
import HandS.TryOnly
import HandS.Lambda
import KE.GoesMore
import KE.GoesEnum
import KE.KDictZip
import KE.KDictItemsList
import KE.KNestM
import KE.KExcInit
import PyProof.ExcBaseAll.LookupError
import PyProof.ListNew
import PyProof.ReprRoads
import PyProof.RowDictHeap
import PyProof.ReprBulk
import PyProof.OldK
import HandS.TupAny
import HandS.TryMany
import PySem.Challenge.RW_eitherbarter_k27_costs
set_option Elab.async false
set_option linter.all false
set_option maxRecDepth 100000
set_option maxHeartbeats 4000000
namespace My
open PySem PySem.Spec PyProof.Rows L2
/-! ### rules of my own -/
/-- // by any divisor but 0, below 2 ^ 9000 in size -/
def CDivX (_ j : Int) : Prop := j ≠ 0 ∧ j.natAbs.log2 < 9000
section
variable {X : Cx}
theorem op_fdivX : OpR X (binaryOp .FloorDiv) (rI CDivX fun i j => .int (i.fdiv j)) := opI fun _ _ _ _ _ _ _ hc q =>
  floordiv_int hc.1 q (.inl (PyProof.noPylong_of_log2 hc.2))
def rReprB : List V → Hp → VK → Prop := fun xs H Q => ∃ b : Bool, xs = [.bl b] ∧ Q (.str (if b then "True" else "False")) H
theorem call_repr_bl : CallR X (.builtin "repr") rReprB := by
  intro pins s σ H xs us Q I r h
  obtain ⟨b, rfl, q⟩ := h
  obtain ⟨u, rfl, r1⟩ := vals1 r
  cases (show u = Value.bool b from r1)
  exact PySem.P.repr_of_bool ⟨.str _, H, I.tok _, ⟨_, rfl⟩, q⟩
end
theorem iteD {p : Prop} [Decidable p] {A B : Prop} (h1 : p → A) (h2 : ¬ p → B) : if decide p = true then A else B := by
  by_cases h : p
  · rw [decide_eq_true h]; exact iteT (h1 h)
  · rw [decide_eq_false h]; exact iteF (h2 h)
theorem iteN {p : Prop} [Decidable p] {A B : Prop} (h1 : ¬ p → A) (h2 : p → B) : if (!decide p) = true then A else B := by
  by_cases h : p
  · rw [decide_eq_true h]; exact iteF (h2 h)
  · rw [decide_eq_false h]; exact iteT (h1 h)
/-- a while whose test leaves the heap as it is -/
theorem while_b {c : TT} {tb : TS} {D : Ends} {σ : L2.St} {H : Hp} (Pv : L2.St → Hp → Prop) (μ : L2.St → Hp → Nat) (h0 : Pv σ H)
    (hs : ∀ σ H, Pv σ H → ∃ b, (∀ Q : Bool → Hp → Prop, Q b H → c σ H Q) ∧
      (if b = true then tb { D with nx := fun σ' H' => Pv σ' H' ∧ μ σ' H' < μ σ H, ct := fun σ' H' => Pv σ' H' ∧ μ σ' H' < μ σ H, bk := D.nx } σ H else D.nx σ H)) : tWhile c tb D σ H := by
  refine ⟨fun m σ H => m = μ σ H ∧ Pv σ H, ⟨_, rfl, h0⟩, ?_⟩
  rintro m σ H ⟨rfl, p⟩
  obtain ⟨b, hc, ht⟩ := hs σ H p
  refine hc _ ?_
  cases b with
  | true =>
    rw [if_pos rfl] at ht
    exact ⟨_, fun σ' H' ⟨p', l⟩ => ⟨_, l, rfl, p'⟩, ht⟩
  | false =>
    rw [if_neg Bool.false_ne_true] at ht
    exact ht
theorem same_new {H : Hp} {p : Addr} (h : H p = none) (o : HO) : Same H (upd H p o) := fun b u q => by rw [upd_ne (ne_of_none q h)]; exact q
theorem small {n : Nat} (h : n ≤ 1000) : n ≤ sizeLine := Nat.le_of_lt (small1000 h)
/-! ### the source of draws: a dict at s, the cells' list at c -/
def srcD (c : Addr) (l m t : Int) : List (Key × V) := [(.inr "cells", .ref c), (.inr "left", .int l), (.inr "mixed", .int m), (.inr "turn", .int t)]
structure SrcL (H : Hp) (s c : Addr) (l m t : Int) (ns : List Int) : Prop where
  hs : H s = some (.dK (srcD c l m t))
  hc : H c = some (.lst (ns.map V.int))
  l0 : 0 ≤ l
  m0 : 0 ≤ m
  m1 : m < 4294967296
  t0 : 0 ≤ t
  n0 : ∀ n ∈ ns, 0 ≤ n
  len : ns.length ≤ 63
def Src (H : Hp) (s c : Addr) : Prop := ∃ l m t ns, SrcL H s c l m t ns
theorem k_cl : ¬ ((Sum.inr "cells" : Key) = (Sum.inr "left" : Key)) := by decide +kernel
theorem k_cm : ¬ ((Sum.inr "cells" : Key) = (Sum.inr "mixed" : Key)) := by decide +kernel
theorem k_ct : ¬ ((Sum.inr "cells" : Key) = (Sum.inr "turn" : Key)) := by decide +kernel
theorem k_lm : ¬ ((Sum.inr "left" : Key) = (Sum.inr "mixed" : Key)) := by decide +kernel
theorem k_lt : ¬ ((Sum.inr "left" : Key) = (Sum.inr "turn" : Key)) := by decide +kernel
theorem k_mt : ¬ ((Sum.inr "mixed" : Key) = (Sum.inr "turn" : Key)) := by decide +kernel
theorem get_cells (c : Addr) (l m t : Int) : valV (srcD c l m t) (Sum.inr "cells") = some (.ref c) := valV_pos rfl
theorem get_left (c : Addr) (l m t : Int) : valV (srcD c l m t) (Sum.inr "left") = some (.int l) := by
  unfold srcD; rw [valV_neg k_cl, valV_pos rfl]
theorem get_mixed (c : Addr) (l m t : Int) : valV (srcD c l m t) (Sum.inr "mixed") = some (.int m) := by
  unfold srcD; rw [valV_neg k_cm, valV_neg k_lm, valV_pos rfl]
theorem get_turn (c : Addr) (l m t : Int) : valV (srcD c l m t) (Sum.inr "turn") = some (.int t) := by
  unfold srcD; rw [valV_neg k_ct, valV_neg k_lt, valV_neg k_mt, valV_pos rfl]
theorem put_there {kvs : List (Key × V)} {k : Key} {u : V} (v : V) (h : valV kvs k = some u) : putK kvs k v = kvs.map (fun kv => if kv.1 = k then (kv.1, v) else kv) := by
  unfold putK
  rw [valV_any, h]
  exact if_pos rfl
theorem put_left (c : Addr) (l m t v : Int) : putK (srcD c l m t) (Sum.inr "left") (.int v) = srcD c v m t := by
  rw [put_there _ (get_left c l m t)]
  show [if (Sum.inr "cells" : Key) = (Sum.inr "left" : Key) then ((Sum.inr "cells" : Key), V.int v) else (Sum.inr "cells", V.ref c), if (Sum.inr "left" : Key) = (Sum.inr "left" : Key) then ((Sum.inr "left" : Key), V.int v) else (Sum.inr "left", V.int l),
    if (Sum.inr "mixed" : Key) = (Sum.inr "left" : Key) then ((Sum.inr "mixed" : Key), V.int v) else (Sum.inr "mixed", V.int m), if (Sum.inr "turn" : Key) = (Sum.inr "left" : Key) then ((Sum.inr "turn" : Key), V.int v) else (Sum.inr "turn", V.int t)] = _
  rw [if_neg k_cl, if_pos rfl, if_neg (Ne.symm k_lm), if_neg (Ne.symm k_lt)]
  rfl
theorem put_mixed (c : Addr) (l m t v : Int) : putK (srcD c l m t) (Sum.inr "mixed") (.int v) = srcD c l v t := by
  rw [put_there _ (get_mixed c l m t)]
  show [if (Sum.inr "cells" : Key) = (Sum.inr "mixed" : Key) then ((Sum.inr "cells" : Key), V.int v) else (Sum.inr "cells", V.ref c), if (Sum.inr "left" : Key) = (Sum.inr "mixed" : Key) then ((Sum.inr "left" : Key), V.int v) else (Sum.inr "left", V.int l),
    if (Sum.inr "mixed" : Key) = (Sum.inr "mixed" : Key) then ((Sum.inr "mixed" : Key), V.int v) else (Sum.inr "mixed", V.int m), if (Sum.inr "turn" : Key) = (Sum.inr "mixed" : Key) then ((Sum.inr "turn" : Key), V.int v) else (Sum.inr "turn", V.int t)] = _
  rw [if_neg k_cm, if_neg k_lm, if_pos rfl, if_neg (Ne.symm k_mt)]
  rfl
theorem put_turn (c : Addr) (l m t v : Int) : putK (srcD c l m t) (Sum.inr "turn") (.int v) = srcD c l m v := by
  rw [put_there _ (get_turn c l m t)]
  show [if (Sum.inr "cells" : Key) = (Sum.inr "turn" : Key) then ((Sum.inr "cells" : Key), V.int v) else (Sum.inr "cells", V.ref c), if (Sum.inr "left" : Key) = (Sum.inr "turn" : Key) then ((Sum.inr "left" : Key), V.int v) else (Sum.inr "left", V.int l),
    if (Sum.inr "mixed" : Key) = (Sum.inr "turn" : Key) then ((Sum.inr "mixed" : Key), V.int v) else (Sum.inr "mixed", V.int m), if (Sum.inr "turn" : Key) = (Sum.inr "turn" : Key) then ((Sum.inr "turn" : Key), V.int v) else (Sum.inr "turn", V.int t)] = _
  rw [if_neg k_ct, if_neg k_lt, if_neg k_mt, if_pos rfl]
  rfl
theorem srcD_made (c : Addr) (m : Int) : mergeK [] (srcD c 1 m 0) = srcD c 1 m 0 := by
  have p1 : putK ([] : List (Key × V)) (Sum.inr "cells" : Key) (V.ref c) = [((Sum.inr "cells" : Key), V.ref c)] := by rw [putK_new _ valV_nil]; rfl
  have p2 : putK ([((Sum.inr "cells" : Key), V.ref c)] : List (Key × V)) (Sum.inr "left" : Key) (V.int 1) = [((Sum.inr "cells" : Key), V.ref c), ((Sum.inr "left" : Key), V.int 1)] := by
    rw [putK_new _ (by rw [valV_neg k_cl, valV_nil])]; rfl
  have p3 : putK ([((Sum.inr "cells" : Key), V.ref c), ((Sum.inr "left" : Key), V.int 1)] : List (Key × V)) (Sum.inr "mixed" : Key) (V.int m) = [((Sum.inr "cells" : Key), V.ref c), ((Sum.inr "left" : Key), V.int 1), ((Sum.inr "mixed" : Key), V.int m)] := by
    rw [putK_new _ (by rw [valV_neg k_cm, valV_neg k_lm, valV_nil])]; rfl
  have p4 : putK ([((Sum.inr "cells" : Key), V.ref c), ((Sum.inr "left" : Key), V.int 1), ((Sum.inr "mixed" : Key), V.int m)] : List (Key × V)) (Sum.inr "turn" : Key) (V.int 0) = srcD c 1 m 0 := by
    rw [putK_new _ (by rw [valV_neg k_ct, valV_neg k_lt, valV_neg k_mt, valV_nil])]; rfl
  show putK (putK (putK (putK [] (Sum.inr "cells" : Key) (V.ref c)) (Sum.inr "left" : Key) (V.int 1)) (Sum.inr "mixed" : Key) (V.int m)) (Sum.inr "turn" : Key) (V.int 0) = srcD c 1 m 0
  rw [p1, p2, p3, p4]
theorem SrcL.ne {H : Hp} {s c : Addr} {l m t : Int} {ns : List Int} (h : SrcL H s c l m t ns) : s ≠ c := ne_of h.hs h.hc (by intro z; cases z)
/-- all but the source stands as it stood; the source is one -/
structure Go (s c : Addr) (H H' : Hp) : Prop where
  keep : ∀ a o, a ≠ s → a ≠ c → H a = some o → H' a = some o
  src : Src H' s c
theorem Src.ne_tup {H : Hp} {s c a : Addr} {xs : List V} (h : Src H s c) (e : H a = some (.tup xs)) : a ≠ s ∧ a ≠ c := by
  obtain ⟨l, m, t, ns, h⟩ := h
  exact ⟨ne_of e h.hs (by intro z; cases z), ne_of e h.hc (by intro z; cases z)⟩
theorem Src.ne_none {H : Hp} {s c a : Addr} (h : Src H s c) (e : H a = none) : a ≠ s ∧ a ≠ c := by
  obtain ⟨l, m, t, ns, h⟩ := h
  refine ⟨fun q => ?_, fun q => ?_⟩
  · rw [q, h.hs] at e
    cases e
  · rw [q, h.hc] at e
    cases e
theorem Src.same {H H' : Hp} {s c : Addr} (h : Src H s c) (e : Same H H') : Src H' s c := by
  obtain ⟨l, m, t, ns, h⟩ := h
  exact ⟨l, m, t, ns, e _ _ h.hs, e _ _ h.hc, h.l0, h.m0, h.m1, h.t0, h.n0, h.len⟩
theorem Go.refl {H : Hp} {s c : Addr} (h : Src H s c) : Go s c H H := ⟨fun _ _ _ _ e => e, h⟩
theorem Go.of {H H' : Hp} {s c : Addr} (h : Src H s c) (e : Same H H') : Go s c H H' := ⟨fun a o _ _ q => e a o q, h.same e⟩
theorem Go.trans {H H1 H2 : Hp} {s c : Addr} (a : Go s c H H1) (b : Go s c H1 H2) : Go s c H H2 := ⟨fun x o h1 h2 e => b.keep x o h1 h2 (a.keep x o h1 h2 e), b.src⟩
theorem Go.then {H H1 H2 : Hp} {s c : Addr} (a : Go s c H H1) (b : Same H1 H2) : Go s c H H2 := a.trans (.of a.src b)
theorem Go.tup {H H' : Hp} {s c a : Addr} {xs : List V} (g : Go s c H H') (h : Src H s c) (e : H a = some (.tup xs)) : H' a = some (.tup xs) :=
  g.keep _ _ (h.ne_tup e).1 (h.ne_tup e).2 e
theorem Go.lst {H H' : Hp} {s c a : Addr} {xs : List V} (g : Go s c H H') (h : Src H s c) (e : H a = some (.lst xs)) (n : a ≠ c) : H' a = some (.lst xs) := by
  obtain ⟨l, m, t, ns, h⟩ := h
  exact g.keep _ _ (ne_of e h.hs (by intro z; cases z)) n e
theorem Go.free {H H' : Hp} {s c a : Addr} (g : Go s c H H') (e : H' a = none) : H a = none := by
  have n := g.src.ne_none e
  cases q : H a with
  | none => rfl
  | some o =>
    rw [g.keep _ _ n.1 n.2 q] at e
    cases e
/-! ### what the draws promise -/
def spPick : Sp := fun vs H Q _ => ∃ (s c : Addr) (n : Int), vs = [.ref s, .int n] ∧ Src H s c ∧ 1 ≤ n ∧ n < 1000000 ∧
  ∀ (k : Int) (H' : Hp), 0 ≤ k → k < n → Go s c H H' → Q (.int k) H'
def spOf (K : PySem.W.Frag) : Sp := fun vs H Q _ => ∃ (s c a : Addr) (xs : List V), vs = [.ref s, .ref a] ∧ Src H s c ∧ H a = some (.lst xs) ∧ a ≠ c ∧ 1 ≤ xs.length ∧ xs.length < 1000000 ∧
  ∀ (i : Nat) (x : V) (H' : Hp), xs[i]? = some x → Go s c H H' → Q x H'
def spSource (K : PySem.W.Frag) : Sp := fun vs H Q _ => ∃ (a : Addr) (ns : List Int), vs = [.ref a] ∧ SqL K H a (ns.map V.int) ∧ ns.length ≤ 63 ∧
  ∀ (s c : Addr) (H' : Hp), Same H H' → H s = none → H c = none → Src H' s c → Q (.ref s) H'
def spLaw (K : PySem.W.Frag) : Sp := fun vs H Q _ => ∃ (a : Addr) (ns : List Int), vs = [.ref a] ∧ SqL K H a (ns.map V.int) ∧ ns.length ≤ 63 ∧ ∀ H', Q (.bl true) H'
end My
namespace My
open PySem PySem.Spec PyProof.Rows L2
section
variable {X : Cx}
theorem pe_gstr {x : Str} {z : Str} {pos : Pos} (hg : Gl X x) (hm : ∃ t, X.mg x = some (.str z t)) (hd : (x == ("__debug__" : Str)) = false := by decide) : PE X (.Name x pos) (tC (.str z)) := by
  obtain ⟨t, e⟩ := hm
  exact pe_glob hg e ⟨t, rfl⟩ hd
theorem pe_gint {x : Str} {i : Int} {pos : Pos} (hg : Gl X x) (hm : ∃ t, X.mg x = some (.int i t)) (hd : (x == ("__debug__" : Str)) = false := by decide) : PE X (.Name x pos) (tC (.int i)) := by
  obtain ⟨t, e⟩ := hm
  exact pe_glob hg e ⟨t, rfl⟩ hd
end
/-! ### a class of errors with one field, kept by its own __init__ -/
def classBody : Stmt → List Stmt
  | .ClassDef _ _ _ b .. => b
  | _ => []
def initOf (st : Stmt) : Stmt := (classBody st).getD 0 (.Pass ⟨0, 0, 0, 0⟩)
structure OwnE (K : PySem.W.Frag) (mg : Str → Option Value) (x q f : Str) (st : Stmt) where
  C : Addr
  fI : Addr
  fd : FuncData
  oex : OexC K C
  xf : XfC K C
  iC : PySem.W.findIn K (.ref C) "__init__" = some (some (.ref fI))
  tI : PySem.W.typeIn K (.ref fI) = some (.type "function")
  noF : PySem.W.findIn K (.ref C) f = some none
  F : Fun K "__init__" q (initOf st) fI fd
  b : Binds K fd ["self", f] []
  m : mg x = some (.ref C)
  te : PySem.W.exmOne K (.ref C) (.ref C) = some true
/-- an error of the class at C whose field f is v -/
def spInit (C : Addr) (f : Str) : Sp := fun vs H Q _ => ∃ (a : Addr) (v : V), vs = [.ref a, v] ∧ H a = some (exo a C none) ∧
  ∀ dx, H dx = none → dx ≠ a → Q .non (upd (upd H dx (exd dx [(f, v)])) a (exo a C (some dx)))
end My
namespace My
open PySem PySem.Spec PyProof.Rows L2
/-- an error of the class at S is one that «except S» takes -/
theorem exm_own {K : PySem.W.Frag} {S : Addr} (h1 : PySem.W.subIn K (.ref S) (.type "BaseException") = some true) (h2 : PySem.W.isClsIn K S = true) (h3 : PySem.W.typeIn K (.ref S) = some (.type "type")) (h4 : PySem.W.subIn K (.ref S) (.ref S) = some true) : PySem.W.exmOne K (.ref S) (.ref S) = some true := by
  have h2' : (PySem.W.clsIn K S).isSome = true := h2
  unfold PySem.W.exmOne
  unfold PySem.W.kitCls
  simp [h1, h2', h3, h4]
end My
namespace My
open PySem PySem.Spec PyProof.Rows L2
/-! ### zip of two sequences, each a list or a tuple -/
def SqK (k : Bool) (K : PySem.W.Frag) (H : Hp) (a : Addr) (xs : List V) : Prop := match k with
  | true => SqT K H a xs
  | false => SqL K H a xs
def ItK (k : Bool) (h : Heap) (it a : Addr) (i : Nat) : Prop := match k with
  | true => h.IsTupleIter it a i
  | false => h.IsListIter it a i
def HeK (k : Bool) (h : Heap) (a : Addr) (its : Array Value) : Prop := match k with
  | true => h.IsTuple a its
  | false => h.IsList a its
theorem drawK {prog : Program} {w : World} {A : Around} (hh : A.handled = none) (k : Bool) (it l : Addr) (hne : l ≠ it) (items : Array Value) :
    Draws prog w A it [it, l] items.size (fun i v => items[i]? = some v) (fun i h => ItK k h it l i ∧ HeK k h l items) := by
  cases k with
  | true => exact Draws.tuple hh it l hne items
  | false => exact Draws.list hh it l hne items
theorem ItK.to {k : Bool} {h h' : Heap} {it a : Addr} {i : Nat} (x : ItK k h it a i) (q : ∀ o, h.get? it = some o → h'.get? it = some o) : ItK k h' it a i := by
  cases k with
  | true => exact Heap.IsTupleIter.at x q
  | false => exact Heap.IsListIter.at x q
theorem ItK.ob {k : Bool} {h : Heap} {it a : Addr} {i : Nat} (x : ItK k h it a i) : ∃ o, h.get? it = some o ∧ ∀ v, o.data ≠ .cell v := by
  cases k with
  | true => obtain ⟨o, e, _, d⟩ := x; exact ⟨o, e, fun v q => by rw [d] at q; cases q⟩
  | false => obtain ⟨o, e, _, d⟩ := x; exact ⟨o, e, fun v q => by rw [d] at q; cases q⟩
section
variable {X : Cx} {pins : List (Addr × Obj)} {σ : L2.St} {H : Hp} {s : Shared}
theorem readK (I : Inv X pins σ H s) {k : Bool} {a : Addr} {xs : List V} (h : SqK k X.K H a xs) : ∃ its : List Value, Vals xs its ∧ HeK k s.heap a its.toArray ∧ a < s.heap.objs.size := by
  cases k with
  | true =>
    obtain ⟨its, r, p, _⟩ := I.tuple (show SqT X.K H a xs from h)
    obtain ⟨o, e, _⟩ := id p
    exact ⟨its, r, p, Heap.lt_size e⟩
  | false =>
    obtain ⟨its, r, p, _⟩ := I.list (show SqL X.K H a xs from h)
    exact ⟨its, r, p.isList, p.lt⟩
theorem injK (I : Inv X pins σ H s) {k : Bool} {a : Addr} {xs ys : List V} (h : SqK k X.K H a xs) (h' : SqK k X.K H a ys) : xs = ys := by
  cases k with
  | true => exact I.tuple_inj h h'
  | false => exact I.list_inj h h'
end
/-- the sequences at a and b as they stand at each turn -/
def ItzM (k l : Bool) (K : PySem.W.Frag) (a b : Addr) : It :=
  ⟨fun n M => ∃ (p q : List V) (u v : V), SqK k K M a p ∧ SqK l K M b q ∧ p[n]? = some u ∧ q[n]? = some v,
    fun n M y M' => ∃ (C : Addr) (u v : V), y = .ref C ∧ M C = none ∧ M' = upd M C (.tup [u, v]) ∧ (∀ p, SqK k K M a p → p[n]? = some u) ∧ ∀ q, SqK l K M b q → q[n]? = some v,
    fun n M => ∃ p q : List V, SqK k K M a p ∧ SqK l K M b q ∧ (n = p.length ∨ n = q.length) ∧ n ≤ p.length ∧ n ≤ q.length⟩
def ZSt (k l : Bool) (z e f i j a b : Addr) (n : Nat) (h : Heap) : Prop :=
  IsZip h z e f .none ∧ IsTupOf2 h e (.ref i) (.ref j) ∧ (∃ x y, IsTupOf2 h f x y) ∧ ItK k h i a n ∧ ItK l h j b n
theorem zsep {z e f i j a b : Addr} (D : ZipApart z e f i j a b) : ZipSep2 z e f i j [i, a] [j, b] where
  TIz := D.TIz
  TOz := D.TOz
  TITO := D.TITO
  TIi1 := D.TIi1
  mem1 := by simp
  zf1 := by simp [D.i1z.symm, D.l1z.symm]
  Tf1 := by simp [D.TOi1, D.l1TO.symm]
  TIi2 := D.TIi2
  mem2 := by simp
  zf2 := by simp [D.i2z.symm, D.l2z.symm]
  Tf2 := by simp [D.TOi2, D.l2TO.symm]
  sep1_2 := by simp [D.i12, D.l2i1.symm]
  sep2_1 := by simp [D.i12.symm, D.l1i2.symm]
theorem in5 {z e f i j c : Addr} (h : c ∈ [z, e, f, i, j]) : c = z ∨ c = e ∨ c = f ∨ c = i ∨ c = j := by simpa using h
theorem turn_zipM {P : Program} {w : World} {K : PySem.W.Frag} {elts : List Expr} {kk : Nat} {tpos : Pos} {k l : Bool} {a b z e f i j : Addr} (D : ZipApart z e f i j a b) :
    Turn P w K (.Tuple elts kk tpos) (ItzM k l K a b) [z, e, f, i, j] z (ZSt k l z e f i j a b) where
  mem := by simp
  obj := by
    intro n h S c hc
    obtain ⟨S1, S2, ⟨x, y, S3⟩, S4, S5⟩ := S
    rcases in5 hc with rfl | rfl | rfl | rfl | rfl
    · exact ⟨_, S1, fun v q => nomatch q⟩
    · exact ⟨_, S2, fun v q => nomatch q⟩
    · exact ⟨_, S3, fun v q => nomatch q⟩
    · exact S4.ob
    · exact S5.ob
  keep := by
    intro n h h' S q
    obtain ⟨S1, S2, ⟨x, y, S3⟩, S4, S5⟩ := S
    exact ⟨q _ (by simp) _ S1, q _ (by simp) _ S2, ⟨x, y, q _ (by simp) _ S3⟩, S4.to (q _ (by simp)), S5.to (q _ (by simp))⟩
  item := by
    intro X hP hw hK hc n pins s σ M E I fr S go
    subst hP hw hK
    obtain ⟨S1, S2, ⟨x0, y0, S3⟩, S4, S5⟩ := S
    obtain ⟨p, q, u, v, Lp, Lq, eu, ev⟩ := go
    obtain ⟨is, rp, hp, _⟩ := readK I Lp
    obtain ⟨js, rq, hq, _⟩ := readK I Lq
    have lp : n < is.toArray.size := by
      have := (List.getElem?_eq_some_iff.mp eu).1
      have e := rp.length
      rw [List.size_toArray]; omega
    have lq : n < js.toArray.size := by
      have := (List.getElem?_eq_some_iff.mp ev).1
      have e := rq.length
      rw [List.size_toArray]; omega
    have zl : z < s.heap.objs.size := Heap.lt_size S1
    have hd1 : X.A.in1.handled = none := I.ok.hd hc
    refine wpAny_pyNext_zipD2_item (zsep D) (drawK hd1 k i a D.l1i1 is.toArray) (drawK hd1 l j b D.l2i2 js.toArray) S1 S2 S3 ⟨S4, hp⟩ ⟨S5, hq⟩ lp lq ?_
    intro u' v' g tk Pu Pv z2 f2 s4 s5 hT sz kp
    obtain ⟨w1, hw1, r1⟩ := rp.get eu
    obtain ⟨w2, hw2, r2⟩ := rq.get ev
    obtain rfl : u' = w1 := by
      have h1 : is[n]? = some u' := by simpa using Pu
      rw [hw1] at h1; exact (Option.some.inj h1).symm
    obtain rfl : v' = w2 := by
      have h1 : js[n]? = some v' := by simpa using Pv
      rw [hw2] at h1; exact (Option.some.inj h1).symm
    refine ⟨_, rfl, wpAny_letOwnedTupleGo_zip (s := { s with heap := g, toks := tk }) z2 fun g' z3 sb => ?_⟩
    have nz : s.heap.objs.size ≠ z := Nat.ne_of_gt zl
    have hT' : g'.get? s.heap.objs.size = some { cls := .type "tuple", data := .seq #[u', v'] } := (sb.2 _ nz).trans hT
    have ok : ObjOk X.prog X.w (upd M s.heap.objs.size (.tup [u, v])) g' s.heap.objs.size (.tup [u, v]) :=
      ⟨(by show 2 ≤ sizeLine; decide), [u', v'], .cons r1 (.cons r2 .nil), _, hT', rfl, _, rfl⟩
    have J : Inv X pins σ (upd M s.heap.objs.size (.tup [u, v])) { s with heap := g', toks := tk } := by
      refine I.turnedNew (t' := tk) (ch := [z, e, f, i, j]) (fun c o hb q => ?_) fr (Nat.le_refl _) ok
      have nb : c ≠ z ∧ c ≠ e ∧ c ≠ f ∧ c ≠ i ∧ c ≠ j := by simpa using hb
      exact (sb.2 c nb.1).trans (kp c o nb.1 nb.2.2.1 nb.2.2.2.1 nb.2.2.2.2 q)
    refine ⟨.ref s.heap.objs.size, _, J, rfl, ⟨_, u, v, rfl, I.hok.fresh (Nat.le_refl _), rfl, fun p' hp' => ?_, fun q' hq' => ?_⟩, ?_, fun c hcm => ?_⟩
    · rw [injK I hp' Lp]; exact eu
    · rw [injK I hq' Lq]; exact ev
    · refine ⟨z3, (sb.2 _ D.TIz).trans (kp _ _ D.TIz D.TITO D.TIi1 D.TIi2 S2), ⟨_, _, (sb.2 _ D.TOz).trans f2⟩, ?_, ?_⟩
      · exact s4.1.to fun o q => (sb.2 _ D.i1z).trans q
      · exact s5.1.to fun o q => (sb.2 _ D.i2z).trans q
    · have lt : c < s.heap.objs.size := by
        rcases in5 hcm with rfl | rfl | rfl | rfl | rfl
        · exact zl
        · exact Heap.lt_size S2
        · exact Heap.lt_size S3
        · obtain ⟨o, q, _⟩ := S4.ob; exact Heap.lt_size q
        · obtain ⟨o, q, _⟩ := S5.ob; exact Heap.lt_size q
      rw [upd_ne (Nat.ne_of_lt lt)]
      exact (fr c hcm).1
  done := by
    intro X hP hw hK hc n pins s σ M E I fr S stop
    subst hP hw hK
    obtain ⟨S1, S2, ⟨x0, y0, S3⟩, S4, S5⟩ := S
    obtain ⟨p, q, Lp, Lq, en, n1, n2⟩ := stop
    obtain ⟨is, rp, hp, _⟩ := readK I Lp
    obtain ⟨js, rq, hq, _⟩ := readK I Lq
    have ep := rp.length
    have eq := rq.length
    have hd1 : X.A.in1.handled = none := I.ok.hd hc
    refine wpAny_pyNext_zipD2_end (zsep D) (drawK hd1 k i a D.l1i1 is.toArray) (drawK hd1 l j b D.l2i2 js.toArray) S1 S2 S3 ⟨S4, hp⟩ ⟨S5, hq⟩ (by rw [List.size_toArray]; omega) (by rw [List.size_toArray]; omega) (by rw [List.size_toArray, List.size_toArray]; omega) ?_
    intro g tk kp
    refine ⟨rfl, I.turnedL (t' := tk) (ch := [z, e, f, i, j]) (fun c o hb q => ?_) fr⟩
    have nb : c ≠ z ∧ c ≠ e ∧ c ≠ f ∧ c ≠ i ∧ c ≠ j := by simpa using hb
    exact kp c o nb.1 nb.2.2.1 nb.2.2.2.1 nb.2.2.2.2 q
  self := fun A n s Q E S h => wpAny_pyIter_zip S.1 h
theorem beginK (k : Bool) (a : Addr) (its : Array Value) : ∃ o, Begins (.ref a) o (fun h => HeK k h a its) ∧ ∀ (h : Heap) (it : Addr), h.get? it = some o → ItK k h it a 0 := by
  cases k with
  | true => exact ⟨_, begins_tuple a its, fun h it e => ⟨_, e, rfl, rfl⟩⟩
  | false => exact ⟨_, begins_list a its, fun h it e => ⟨_, e, rfl, rfl⟩⟩
def iZipM (K : PySem.W.Frag) (ta : TA) : TI := fun σ M R => ta σ M fun vs M1 => ∃ (k l : Bool) (a b : Addr) (p q : List V), vs = [.ref a, .ref b] ∧ SqK k K M1 a p ∧ SqK l K M1 b q ∧ R (ItzM k l K a b) M1
theorem pi_zipM {X : Cx} {e e2 : Expr} {ta : TA} {p pos tpos : Pos} {elts : List Expr} {kk : Nat} (hg : Gl X "zip") (hm : X.mg "zip" = none) (ha : PA X [e, e2] ta)
    (hs : starEach [e, e2] X.env = (false, eval e X.env) :: starEach [e2] X.env := by rfl) (hpl : (backTo pos (starEach [e2] X.env)).any (·.1) = false := by rfl) :
    PI X (.Tuple elts kk tpos) (.Call (.Name "zip" p) [e, e2] [] pos) (iZipM X.K ta) := by
  refine ⟨fun pins s σ M R I h => Call_ (ld_blt I hg hm PyProof.Rows.boot_zip (PyProof.Rows.callWith_type1 (thn (ha.run pos pins s σ M _ I h) fun us s1 hh => ?_) hs hpl))⟩
  obtain ⟨vs, M1, I1, r1, k, l, a, b, xs, ys, ev, Lx, Ly, q⟩ := hh
  subst ev
  obtain ⟨u1, u2, rfl, e1, e2⟩ := vals2 r1
  cases (show u1 = Value.ref a from e1)
  cases (show u2 = Value.ref b from e2)
  obtain ⟨is, rp, hp, la⟩ := readK I1 Lx
  obtain ⟨js, rq, hq, lb⟩ := readK I1 Ly
  obtain ⟨o1, B1, t1⟩ := beginK k a is.toArray
  obtain ⟨o2, B2, t2⟩ := beginK l b js.toArray
  refine zip_begins2 B1 B2 hp hq fun g z1 z2 z3 g1 g2 sz kp => wpAny_pyIter_zip z1 ?_
  have J : Inv X pins σ M1 { s1 with heap := g } := I1.kept (t' := s1.toks) kp
  refine ⟨s1.heap.objs.size + 4, [s1.heap.objs.size + 4, s1.heap.objs.size + 2, s1.heap.objs.size + 3, s1.heap.objs.size, s1.heap.objs.size + 1], _, _, M1, rfl, J, turn_zipM (PySem.W.ktu_apart s1.heap.objs.size a b la lb), ⟨z1, z2, ⟨_, _, z3⟩, t1 _ _ g1, t2 _ _ g2⟩, fun c hcm => ?_, q⟩
  have le : s1.heap.objs.size ≤ c := by
    rcases in5 hcm with rfl | rfl | rfl | rfl | rfl <;> first | exact Nat.le_add_right _ _ | exact Nat.le_refl _
  exact I1.fpOk le (I1.hok.fresh le)
/-- a loop over zip of two sequences of one length -/
theorem for_zipM {k l : Bool} {K : PySem.W.Frag} {a b : Addr} {p q : List V} {g : TG} {tb : TS} {D : Ends} {σ : L2.St} {M : Hp} (hl : p.length = q.length) (Pv : Nat → L2.St → Hp → Prop) (h0 : Pv 0 σ M) (hq : ∀ n σ M, Pv n σ M → SqK k K M a p ∧ SqK l K M b q)
    (hs : ∀ (n : Nat) (u v : V) (C : Addr) (σ : L2.St) (M : Hp), p[n]? = some u → q[n]? = some v → Pv n σ M → M C = none → g (.ref C) σ (upd M C (.tup [u, v])) fun σ2 M2 => tb { D with nx := Pv (n + 1), ct := Pv (n + 1), bk := D.nx } σ2 M2) (hd : ∀ σ M, Pv p.length σ M → D.nx σ M) :
    ∃ W : Nat → Nat → L2.St → Hp → Prop, (∃ m, W 0 m σ M) ∧ ∀ n m σ M, W n m σ M →
      ((ItzM k l K a b).stop n M ∧ D.nx σ M) ∨ ((ItzM k l K a b).go n M ∧ ∃ N : L2.St → Hp → Prop, (∀ σ' M', N σ' M' → ∃ m', m' < m ∧ W (n + 1) m' σ' M') ∧ ∀ y M', (ItzM k l K a b).yld n M y M' → g y σ M' fun σ2 M2 => tb { D with nx := N, ct := N, bk := D.nx } σ2 M2) := by
  refine ⟨fun n m σ M => m + n = p.length ∧ Pv n σ M, ⟨p.length, by simp, h0⟩, ?_⟩
  rintro n m σ M ⟨em, pv⟩
  obtain ⟨Lp, Lq⟩ := hq n σ M pv
  by_cases c : n < p.length
  · have eu : p[n]? = some p[n] := List.getElem?_eq_getElem c
    have ev : q[n]? = some (q[n]'(by omega)) := List.getElem?_eq_getElem (by omega)
    refine .inr ⟨⟨p, q, _, _, Lp, Lq, eu, ev⟩, Pv (n + 1), fun σ' M' pv' => ⟨m - 1, by omega, by omega, pv'⟩, fun y M' hy => ?_⟩
    obtain ⟨C, u, v, rfl, nC, rfl, f1, f2⟩ := hy
    exact hs n u v C σ M (f1 p Lp) (f2 q Lq) pv nC
  · have e : n = p.length := by omega
    subst e
    exact .inl ⟨⟨p, q, Lp, Lq, .inl rfl, Nat.le_refl _, by omega⟩, hd σ M pv⟩
end My
namespace My
open PySem PySem.Spec PyProof.Rows L2
/-! ### own classes of errors over any built-in one, kept by an __init__ of their own -/
/-- what the written part says of the class at C over the built-in errors of mro B -/
structure OexG (K : PySem.W.Frag) (C : Addr) (newId : String) (B : List Value) : Prop where
  cls : ∃ nm q N bs bm sn sub ab col dd k0 k1 k2 k3 k5, K.lookup C = some (excClassObj nm q C N bs bm true sn sub ab col dd k0 k1 k2 k3 k5 newId) ∧ PySem.W.excTail B bm = true
  sa : PySem.W.findIn K (.ref C) "__setattr__" = some (some (.builtin "object.__setattr__"))
  exC : PySem.W.subIn K (.ref C) (.type "BaseException") = some true
  tyC : PySem.W.typeIn K (.ref C) = some (.type "type")
  kC : PySem.W.keepIn K (.ref C) = true
/-- the mro of LookupError -/
abbrev leM : List Value := [.type "LookupError", .type "Exception", .type "BaseException", .type "object"]
section
variable {prog : Program} {w : World} {A : Around} {R : Result → Shared → Prop} {hp : Heap} {g : Array GenState} {d : Drawn} {t : Nat} {os : OsState} {B : List Value} {b0 : String}
/-- the first store into such an error: its dict is laid -/
theorem osaG {K : PySem.W.Frag} {name : Str} {tk : Tok} {v : Value} {x C : Addr} {fv : Array Value} {cd : ClassData} (SF : StoreFacts b0 B "object.__setattr__" "object")
    (X : K.In hp) (hx : hp.get? x = some { cls := .ref C, data := .fields fv }) (hcd : PySem.W.clsIn K C = some cd) (bm : List Value) (hm : cd.mro = .ref C :: bm) (hb : PySem.W.excTail B bm = true) (hh : cd.hasDict = true) (ha : PySem.W.findIn K (.ref C) name = some none)
    (hq : ∀ h' tk' dx, (∀ b o, b ≠ x → hp.get? b = some o → h'.get? b = some o) → hp.objs.size ≤ dx → dx ≠ x → h'.get? x = some { cls := .ref C, dict := some dx, data := .fields fv } →
      h'.Ns1 dx (fun y => if y = name then some v else none) → R (.ok (.ret .none)) ⟨h', g, d, tk', os⟩) :
    codeAny (model prog w) A (.call (.builtin "object.__setattr__") ⟨[.ref x, .str name tk, v], []⟩) R ⟨hp, g, d, t, os⟩ := by
  have I : PySem.W.InstAt hp x { cls := .ref C, data := .fields fv } C none := ⟨hx, rfl, rfl, trivial⟩
  have hxs : x ≠ hp.objs.size := Nat.ne_of_lt (Heap.lt_size hx)
  have hcls : PySem.W.Looks (model prog w) hp (classData C) cd := PySem.W.looks_clsIn X hcd
  have ov : PySem.W.excOver K C B = true := by
    unfold PySem.W.excOver
    rw [hcd]
    show (match cd.mro with | .ref C' :: bm => C' == C && PySem.W.excTail B bm | _ => false) = true
    rw [hm]
    show ((C == C) && PySem.W.excTail B bm) = true
    rw [hb, beq_self_eq_true]
    rfl
  have tk0 : PySem.W.takerIn K C name = some none := by
    unfold PySem.W.takerIn
    rw [ha]
    rfl
  refine PySem.W.osa_openX (r := none) SF X I ov tk0 fun bb => ?_
  obtain ⟨nm, bs, mro, ns, qn, hd, sn, sb, ab, col, del⟩ := cd
  dsimp only at hh
  subst hh
  show wpAny _ _ (Builtin.ObjectAttr.storeInOwnDict _ _ _ _ _ _) _ _ _
  unfold Builtin.ObjectAttr.storeInOwnDict Builtin.ObjectAttr.ownDictForStores
  repeat (first | with_reducible refine PySem.HandSPX.store_in_new ?_ ?_ | with_reducible refine wpAny_loadPart_at hx ?_ | with_reducible refine hcls.at ?_ | wp_step)
  · exact ⟨_, #[], _, (Heap.get?_update_ne _ _ _ _ hxs.symm).trans (Heap.get?_push_at rfl rfl), rfl, fun e he => absurd he (by simp), fun _ => rfl⟩
  · intro h' tk' hn' hs
    have hx1 : (hp.push { cls := .type "dict", data := .dict #[] }).get? x = some { cls := .ref C, data := .fields fv } := Heap.get?_push_of_some _ hx
    exact hq h' tk' hp.objs.size (fun b o hb ho => (hs.2 b (Nat.ne_of_lt (Heap.lt_size ho))).trans ((Heap.get?_update_ne _ _ _ _ hb).trans (Heap.get?_push_of_some _ ho))) (Nat.le_refl _) hxs.symm ((hs.2 x hxs).trans (Heap.get?_update_self _ hx1 rfl)) hn'
end
end My
namespace My
open PySem PySem.Spec PyProof.Rows L2
section
variable {X : Cx} {pins : List (Addr × Obj)} {σ : L2.St} {H : Hp} {s : Shared} {a C : Addr} {f : Str} {y : V} {u : Value} {A : Around} {newId b0 : String} {B : List Value}
/-- self.f = y, the first one, for errors over any base -/
theorem ostG {Q : Unit → Shared → Prop} {E : Value → Shared → Prop} (SF : StoreFacts b0 B "object.__setattr__" "object") (T : OexG X.K C newId B) (I : Inv X pins σ H s) (ea : H a = some (exo a C none)) (no : PySem.W.findIn X.K (.ref C) f = some none) (ry : RelV y u)
    (k : ∀ dx s', H dx = none → dx ≠ a → Inv X pins σ (L2.upd (L2.upd H dx (exd dx [(f, y)])) a (exo a C (some dx))) s' → Q () s') : wpAny (model X.prog X.w) A (setAttr (.ref a) f u) Q E s := by
  obtain ⟨nm, q, N, bs, bm, sn, sub, ab, col, dd, k0, k1, k2, k3, k5, hC, hb⟩ := T.cls
  have hcl : PySem.W.clsIn X.K C = some { name := nm, bases := bs, mro := .ref C :: bm, ns := N, qualname := q, hasDict := true, slotNames := sn, subclasses := sub, abstract := ab, collection := col, hasDel := false } := by
    unfold PySem.W.clsIn; rw [hC] <;> rfl
  obtain ⟨t1, ho⟩ := exo_at I.hok ea
  obtain ⟨hp, g, d, t, os⟩ := s
  refine PySem.W.set_plain I.kIn (ox := { cls := .ref C, dict := none, data := .fields #[.ref t1, .none, .none, .none, .bool false, .none] }) (od := none) ⟨ho, rfl, rfl, trivial⟩ T.sa (osaG SF I.kIn ho hcl bm rfl hb rfl no fun h' tk' dx kp dn dne hx hn => ?_)
  have hd : H dx = none := I.hok.fresh dn
  have nd : ∀ {b : Addr} {o : Obj}, hp.get? b = some o → b ≠ dx := fun {b o} z => Nat.ne_of_lt (Nat.lt_of_lt_of_le (Heap.lt_size z) dn)
  have na : ∀ {b : Addr}, H b = none → b ≠ a := fun {b} n z => by rw [z, ea] at n; cases n
  have U : Un X.fs [] H (L2.upd (L2.upd H dx (exd dx [(f, y)])) a (exo a C (some dx))) hp h' := by
    refine ⟨fun b o z n _ _ => kp b o (na n) z, fun b o z n _ _ => ⟨o.slots, kp b o (na n) z⟩, fun b o z n _ => ?_, fun b o z _ => ?_, fun b xs z => ?_, fun b o v z => ?_, fun b ps z => ⟨#[], ?_⟩⟩
    · rw [upd_ne (na n), upd_ne (nd z)]; exact n
    · by_cases hba : b = a
      · exact ⟨_, by rw [hba]; exact hx⟩
      · exact ⟨o, kp b o hba z⟩
    · rw [upd_ne (at_ne ea z exo_tup), upd_ne (ne_of_none z hd)]; exact z
    · rw [upd_ne (at_ne ea z exo_frz), upd_ne (ne_of_none z hd)]; exact z
    · rw [upd_ne (at_ne ea z exo_tbl), upd_ne (ne_of_none z hd), z]; simp
  refine k dx _ hd dne (I.un (t' := tk') U fun b o z => ?_)
  by_cases hba : b = a
  · subst hba
    rw [upd_same] at z
    cases z
    exact exo_ok hx
  rw [upd_ne hba] at z
  by_cases hbd : b = dx
  · subst hbd
    rw [upd_same] at z
    cases z
    exact exd_ok hn (relO_put (fs := []) ry fun g => True.intro)
  rw [upd_ne hbd] at z
  refine (I.hok b o z).stay (fun c v hc z2 => kp c v ?_ z2) (fun c hc => ?_) (fun c xs hc => ?_)
  · rcases hc with hc | hc
    · rw [hc]; exact hba
    · exact at_ne ea hc exo_own
  · rw [upd_ne (at_ne ea hc exo_own), upd_ne (ne_of_none hc hd)]; exact hc
  · rw [upd_ne (at_ne ea hc exo_tup), upd_ne (ne_of_none hc hd)]; exact hc
end
/-- self.f = e, the one store of such an __init__ -/
def tOstG (K : PySem.W.Frag) (newId : String) (B : List Value) (f : Str) (to te : TE) : TS := fun D σ H => te σ H fun y H1 => to σ H1 fun x H2 => ∃ a C : Addr, x = .ref a ∧ OexG K C newId B ∧ PySem.W.findIn K (.ref C) f = some none ∧
  H2 a = some (exo a C none) ∧ ∀ dx, H2 dx = none → dx ≠ a → D.nx σ (L2.upd (L2.upd H2 dx (exd dx [(f, y)])) a (exo a C (some dx)))
section
variable {X : Cx} {o e : Expr} {es : List Expr} {to te : TE} {ta : TA} {f : Str} {p p' pos : Pos} {newId initId b0 : String} {B : List Value}
theorem ps_ostG (SF : StoreFacts b0 B "object.__setattr__" "object") (ho : PE X o to) (he : PE X e te) (hs : swapsWith e (some (.Attribute o f p')) pos.line X.env = pure false := by rfl) : PS X (.Assign [.Attribute o f p'] e pos) (tOstG X.K newId B f to te) := by
  refine ⟨fun pins s σ H D I h => plainObj_wpAny_Assign_Attribute (thn (he.run pins s σ H _ I h) fun v s1 ⟨y, H1, I1, r1, q1⟩ => thn (ho.run pins s1 σ H1 _ I1 q1) fun u s2 ⟨x, H2, I2, r2, a, C, ex, T, no, ea, q⟩ => ?_) hs⟩
  subst ex
  obtain rfl : u = Value.ref a := r2
  exact ostG SF T I2 ea no r1 fun dx s' n ne J => ⟨σ, _, J, q dx n ne⟩
/-- C(e, ..), an error over any base being made -/
theorem pmk_G {CX : CXT} {x : Str} {C fI : Addr} {k : Nat} {fd : FuncData} {ps : List Str} {sp : Sp} {ds : List Value} {dvs : List V} (FB : ExcBaseFacts b0 newId initId B) (T : OexG X.K C newId B) (iC : PySem.W.findIn X.K (.ref C) "__init__" = some (some (.ref fI))) (tI : PySem.W.typeIn X.K (.ref fI) = some (.type "function"))
    (F1 : FnOk X.prog X.w X.K X.mg X.base CX k fI fd ps sp) (hr : Room (k + 1) X.A) (hb : Binds X.K fd ps ds) (hd : Vals dvs ds) (hx : Passes CX X (fun _ _ _ => False)) (hg : Gl X x) (hm : X.mg x = some (.ref C)) (ha : PA X (e :: es) ta)
    (hdb : (x == ("__debug__" : Str)) = false := by decide) (he : starEach (e :: es) X.env = (false, eval e X.env) :: starEach es X.env := by rfl) (hpl : (backTo pos (starEach es X.env)).any (·.1) = false := by rfl) : PMk X (.Call (.Name x p) (e :: es) [] pos) (tMkO C sp dvs ta) := by
  intro pins s σ H Q I h
  obtain ⟨nm, q, N, bs, bm, sn, sub, ab, col, dd, k0, k1, k2, k3, k5, hC, hbm⟩ := T.cls
  refine wpAny_Call_Name_kw (ld_glob I hg hm ?_ hdb)
  refine PySem.W.callWith_K (h₀ := X.base) I.ok.mod.kin T.kC (thn (ha.run pos pins s σ H _ I h) fun us s1 ⟨vs, H1, I1, r1, hz, q1⟩ => ⟨I1.kIn, (show wpAny _ _ (call (.ref C) us) _ _ _ from ?_)⟩) he hpl
  obtain ⟨hp, g, dr, tk, os⟩ := s1
  have hsz : hp.objs.size ≤ hp.objs.size + 1 := Nat.le_succ _
  have hq := q1 (hp.objs.size + 1) (I1.hok.fresh hsz)
  have kk : ∀ b o, hp.get? b = some o → ((hp.push (PySem.W.kdv_tup us)).push (PySem.HandSPX.excO C hp.objs.size)).get? b = some o := fun b o z => Heap.get?_push_of_some _ (Heap.get?_push_of_some _ z)
  have hget : ((hp.push (PySem.W.kdv_tup us)).push (PySem.HandSPX.excO C hp.objs.size)).get? (hp.objs.size + 1) = some (PySem.HandSPX.excO C hp.objs.size) := by heap_get
  have I2 := I1.laid (t' := tk) (a := hp.objs.size + 1) (o := exo (hp.objs.size + 1) C none) (h' := (hp.push (PySem.W.kdv_tup us)).push (PySem.HandSPX.excO C hp.objs.size)) kk hsz (exo_ok hget)
  have r2 : Vals (V.ref (hp.objs.size + 1) :: (vs ++ dvs)) (Value.ref (hp.objs.size + 1) :: (us ++ ds)) := .cons rfl (r1.append hd)
  have hl : (Value.ref (hp.objs.size + 1) :: us ++ ds).length = ps.length := by
    have z := r2.length; rw [F1.len _ _ _ _ hq] at z; exact z.symm
  have hus : us.length ≤ sizeLine := by rw [← Paired.length r1, sizeLine_eq]; omega
  refine wpAny_call (PySem.HandSPX.call_own FB (fun Y => PySem.W.excTail_contains Y bm hbm) (I1.kIn _ _ hC) (PySem.W.looks_findIn I1.kIn iC) (fun self => PySem.W.bind_fn I1.kIn self tI) hus
    (codeAny_mono (F1.run _ X.stack _ _ ⟨Value.ref (hp.objs.size + 1) :: us, []⟩ (Value.ref (hp.objs.size + 1) :: (us ++ ds)) _ _ (fun _ _ _ => False) (hr.make C us []) (I2.env0.make C us []) (hb _ (Value.ref (hp.objs.size + 1) :: us) I2.kIn hl) r2 hq) fun r s' hq' => ?_))
  rcases r with er | fl
  · exact hx pins σ _ _ er s' I2 hq'
  cases fl with
  | ret u =>
    obtain ⟨v, H2, os2, bare2, un2, hok2, rv, ev, d, fs, ea, ed, hd1, q2⟩ := hq'
    subst ev
    obtain ⟨h2, g2, d2, t2, os'⟩ := s'
    exact ⟨rv, mk_end (raises_own T.exC T.tyC) I1 hsz kk un2 hok2 os2 bare2 ea ed hd1 q2⟩
  | _ => exact False.elim hq'
end
/-! ### a class of errors over LookupError with one field, kept by its own __init__ -/
structure OwnL (K : PySem.W.Frag) (mg : Str → Option Value) (x q f : Str) (st : Stmt) where
  C : Addr
  fI : Addr
  fd : FuncData
  oex : OexG K C "LookupError.__new__" leM
  xf : XfC K C
  iC : PySem.W.findIn K (.ref C) "__init__" = some (some (.ref fI))
  tI : PySem.W.typeIn K (.ref fI) = some (.type "function")
  noF : PySem.W.findIn K (.ref C) f = some none
  F : Fun K "__init__" q (initOf st) fI fd
  b : Binds K fd ["self", f] []
  m : mg x = some (.ref C)
  te : PySem.W.exmOne K (.ref C) (.ref C) = some true
end My
namespace My
open PySem PySem.Spec PyProof.Rows L2 HT
/-! ### slices of a tuple with a step -/
section
variable {prog : Program} {w : World} {A : Around} {E : Value → Shared → Prop} {s : Shared}
theorem sliceApplied_step {sl : Addr} {vl vu vs : Value} {lo hi : Option Int} {st : Int} {n : Nat} {Q : Int × Int × Nat → Shared → Prop} (hs : s.heap.IsSliceOf sl vl vu vs) (pl : IsPart vl lo) (pu : IsPart vu hi) (ps : IsPart vs (some st)) (h0 : st ≠ 0)
    (h : Q ((Builtin.Slice.sliceAdjust lo hi st (n : Int)).1, st, Builtin.Slice.slicePlaces (Builtin.Slice.sliceAdjust lo hi st (n : Int)).1 (Builtin.Slice.sliceAdjust lo hi st (n : Int)).2 st) s) : wpAny (model prog w) A (Builtin.Slice.sliceApplied (.ref sl) (pure (n : Int))) Q E s := by
  obtain ⟨os, hos, hcs, hds⟩ := id hs
  unfold Builtin.Slice.sliceApplied Builtin.Slice.sliceFields
  refine wpAny_bind (wpAny_bind (wpAny_field hos hds (x := vl) rfl (wpAny_bind (wpAny_field hos hds (x := vu) rfl (wpAny_bind (wpAny_field hos hds (x := vs) rfl (wpAny_pure ?_)))))))
  refine wpAny_bind (slicePart_ ps ?_)
  show wpAny _ _ (if (st == 0) = true then _ else _) _ _ s
  rw [if_neg (fun z => h0 (eq_of_beq z))]
  refine wpAny_bind (slicePart_ pl (wpAny_bind (slicePart_ pu (wpAny_bind (wpAny_pure ?_)))))
  exact wpAny_pure h
end
/-- the places of a slice with a step -/
def stepAt (n : Nat) (lo hi : Option Int) (st : Int) : List Nat :=
  (List.range (Builtin.Slice.slicePlaces (Builtin.Slice.sliceAdjust lo hi st (n : Int)).1 (Builtin.Slice.sliceAdjust lo hi st (n : Int)).2 st)).map fun (m : Nat) => ((Builtin.Slice.sliceAdjust lo hi st (n : Int)).1 + (m : Int) * st).toNat
def stepV {α : Type} (xs : List α) (lo hi : Option Int) (st : Int) : List α := (stepAt xs.length lo hi st).filterMap fun i => xs[i]?
theorem vals_pick {xs : List V} {us : List Value} (r : Vals xs us) : ∀ is : List Nat, Vals (is.filterMap fun i => xs[i]?) (is.filterMap fun i => us[i]?)
  | [] => .nil
  | i :: is => by
    cases e : xs[i]? with
    | none =>
      have e2 : us[i]? = none := by
        rw [List.getElem?_eq_none_iff] at e ⊢
        rw [← r.length]; exact e
      rw [List.filterMap_cons_none e, List.filterMap_cons_none e2]
      exact vals_pick r is
    | some x =>
      obtain ⟨u, e2, ru⟩ := r.get e
      rw [List.filterMap_cons_some e, List.filterMap_cons_some e2]
      exact .cons ru (vals_pick r is)
theorem filter_le {α : Type} (xs : List α) : ∀ is : List Nat, (is.filterMap fun i => xs[i]?).length ≤ is.length := fun is => List.length_filterMap_le _ _
/-- t[lo:hi:st], not in single steps -/
def tStpT (K : PySem.W.Frag) (te : TE) (tl th ts : TO) : TE := fun σ H Q => te σ H fun x H1 => tl σ H1 fun l H2 => th σ H2 fun u H3 => ts σ H3 fun o H4 => ∃ a xs st, x = .ref a ∧ o = some st ∧ SqT K H4 a xs ∧ st ≠ 0 ∧ st ≠ 1 ∧ (stepAt xs.length l u st).length ≤ sizeLine ∧ ∀ p, H4 p = none → Q (.ref p) (L2.upd H4 p (.tup (stepV xs l u st)))
section
variable {X : Cx} {e : Expr} {te : TE} {lo hi stp : Option Expr} {tl th ts : TO} {p2 pos : Pos}
theorem pe_stpT (fl : Bool) (he : PE X e te) (hl : PO X lo tl) (hh : PO X hi th) (hst : PO X stp ts)
    (hsub : ∀ a sl : Addr, subscripted (.Slice lo hi stp p2) false (.ref a) (.ref sl) = operate (if fl = true then [.ref a, .ref sl] else [.ref sl, .ref a]) (getItem (.ref a) (.ref sl)) := by intro a sl; with_unfolding_all rfl) : PE X (.Subscript e (.Slice lo hi stp p2) pos) (tStpT X.K te tl th ts) := by
  refine ⟨fun pins s σ H Q I h => ?_⟩
  refine Subscript_ (thn (he.run pins s σ H _ I h) fun v s1 ⟨x, H1, I1, r1, q1⟩ => ?_)
  refine wpAny_Slice (thn (hl.run pins s1 σ H1 _ I1 q1) fun vl s2 ⟨l, H2, I2, pl, q2⟩ => thn (hh.run pins s2 σ H2 _ I2 q2) fun vu s3 ⟨u, H3, I3, pu, q3⟩ => thn (hst.run pins s3 σ H3 _ I3 q3) fun vs s4 ⟨o, H4, I4, ps, q4⟩ => ?_)
  obtain ⟨a, xs, st, ex, eo, hx, n0, n1, hz4, q⟩ := q4
  subst ex eo
  cases r1
  have I5 : Inv X pins σ H4 { s4 with heap := s4.heap.push { cls := .type "slice", data := .fields #[vl, vu, vs] } } := I4.kept (t' := s4.toks) fun b ob q => Heap.get?_push_of_some _ q
  obtain ⟨its, r, ht, hz⟩ := I5.tuple hx
  have hlen : its.toArray.size = xs.length := by rw [List.size_toArray]; exact r.length.symm
  have hs : ({ s4 with heap := s4.heap.push { cls := .type "slice", data := .fields #[vl, vu, vs] } } : Shared).heap.IsSliceOf s4.heap.objs.size vl vu vs := Heap.IsSliceOf.new ..
  obtain ⟨os, hos, hcs, hds⟩ := id hs
  have hTs : ({ s4 with heap := s4.heap.push { cls := .type "slice", data := .fields #[vl, vu, vs] } } : Shared).TypeIs (.ref s4.heap.objs.size) "slice" := ⟨os, hos, hcs⟩
  show wpAny (model X.prog X.w) X.A (subscriptTail e (.Slice lo hi stp p2) (.ref a) (.ref s4.heap.objs.size)) (EP X pins σ Q) X.xe { s4 with heap := s4.heap.push { cls := .type "slice", data := .fields #[vl, vu, vs] } }
  refine tail_any (ops := if fl = true then [.ref a, .ref s4.heap.objs.size] else [.ref s4.heap.objs.size, .ref a]) ht.typeIs PyProof.Rows.slot_tuple_getitem.lookup ?_ (hsub _ _)
  generalize hS : ({ s4 with heap := s4.heap.push { cls := .type "slice", data := .fields #[vl, vu, vs] } } : Shared) = S at *
  unfold getItem
  try with_reducible refine wpAny_holding ?_
  first | refine wpAny_bind (wpAny_pure ?_) | skip
  refine wpAny_bind (wpAny_sequenceKey ht.typeIs (by decide) ?_)
  refine wpAny_bind (wpAny_callSpecial?_slot (name := Str.ofString "__getitem__") ht.typeIs PyProof.Rows.slot_tuple_getitem
    (wpAny_call_entry PyProof.Rows.slot_tuple_getitem ht.typeIs entry_tuple_getitem ?_ (args_tuple_getitem _ _)))
  show wpAny _ _ (Builtin.Tuple.tupleItemsOf (.ref a) >>= _) _ _ S
  refine wpAny_bind (tupleItemsOf_ ht ?_)
  refine wpAny_bind (wpAny_typeOf hTs ?_)
  rw [if_pos (by decide)]
  refine wpAny_bind (sliceApplied_step hs pl pu ps n0 ?_)
  have hno : ¬ (((Builtin.Slice.sliceAdjust l u st (its.toArray.size : Int)).1 == 0 && st == 1 && Builtin.Slice.slicePlaces (Builtin.Slice.sliceAdjust l u st (its.toArray.size : Int)).1 (Builtin.Slice.sliceAdjust l u st (its.toArray.size : Int)).2 st == its.toArray.size) = true) := fun z => by
    rw [Bool.and_eq_true, Bool.and_eq_true] at z
    exact n1 (eq_of_beq z.1.2)
  show wpAny _ _ (if ((Builtin.Slice.sliceAdjust l u st (its.toArray.size : Int)).1 == 0 && st == 1 && Builtin.Slice.slicePlaces (Builtin.Slice.sliceAdjust l u st (its.toArray.size : Int)).1 (Builtin.Slice.sliceAdjust l u st (its.toArray.size : Int)).2 st == its.toArray.size) = true then _ else _) _ _ S
  rw [if_neg hno]
  have eS : ((List.range (Builtin.Slice.slicePlaces (Builtin.Slice.sliceAdjust l u st (its.toArray.size : Int)).1 (Builtin.Slice.sliceAdjust l u st (its.toArray.size : Int)).2 st)).filterMap fun (k : Nat) => its.toArray[((Builtin.Slice.sliceAdjust l u st (its.toArray.size : Int)).1 + (k : Int) * st).toNat]?) = (stepAt xs.length l u st).filterMap fun i => its[i]? := by
    unfold stepAt
    rw [hlen, List.filterMap_map]
    congr 1
    funext k
    simp
  have rv := vals_pick r (stepAt xs.length l u st)
  have hsz : ((stepAt xs.length l u st).filterMap fun i => its[i]?).length ≤ sizeLine := Nat.le_trans (filter_le its _) hz4
  have fin : (EP X pins σ Q) (.ref S.heap.objs.size) { S with heap := S.heap.push { cls := .type "tuple", data := .seq ((stepAt xs.length l u st).filterMap fun i => its[i]?).toArray } } := by
    refine ⟨.ref S.heap.objs.size, _, I5.laid (t' := S.toks) (o := .tup (stepV xs l u st)) (fun b ob q => Heap.get?_push_of_some _ q) (Nat.le_refl _) ?_, rfl, q _ (I5.hok.fresh (Nat.le_refl _))⟩
    exact ⟨Nat.le_trans (filter_le xs _) hz4, _, rv, IsTup.new _ _⟩
  have htake : sizeOk (.seq ((stepAt xs.length l u st).filterMap fun i => its[i]?).toArray) := by
    show ((stepAt xs.length l u st).filterMap fun i => its[i]?).toArray.size ≤ sizeLine
    rw [List.size_toArray]; exact hsz
  rw [eS]
  first
    | exact wpAny_bind (m := Builtin.Tuple.tupleExact _) (wpAny_newObj_type (wpAny_pure ⟨_, rfl, wpAny_pure fin⟩) htake)
    | exact wpAny_bind (m := Builtin.Tuple.tupleExact _) (wpAny_newObj_type (wpAny_bind (wpAny_pure (wpAny_pure ⟨_, rfl, wpAny_pure fin⟩))) htake)
    | exact wpAny_bind (wpAny_bind (m := Builtin.Tuple.tupleExact _) (wpAny_newObj_type (wpAny_pure (wpAny_pure ⟨_, rfl, wpAny_pure fin⟩)) htake))
    | exact wpAny_bind (wpAny_bind (m := Builtin.Tuple.tupleExact _) (wpAny_newObj_type (wpAny_pure ⟨_, rfl, wpAny_pure fin⟩) htake))
end
end My
namespace My
open PySem PySem.Spec PyProof.Rows L2
/-- an error of the class at R is none that «except S» takes -/
theorem exm_pair {K : PySem.W.Frag} {R S : Addr} (h1 : PySem.W.subIn K (.ref S) (.type "BaseException") = some true) (h2 : PySem.W.isClsIn K S = true) (h3 : PySem.W.typeIn K (.ref S) = some (.type "type")) (h4 : PySem.W.subIn K (.ref R) (.ref S) = some false) : PySem.W.exmOne K (.ref R) (.ref S) = some false := by
  have h2' : (PySem.W.clsIn K S).isSome = true := h2
  unfold PySem.W.exmOne
  unfold PySem.W.kitCls
  simp [h1, h2', h3, h4]
/-! ### several clauses «except C as e» -/
/-- what the clauses wish of an exception of the body, one after the other -/
def wAsMany (K : PySem.W.Frag) (Wout : WX) (D : Ends) : List (Value × Nat × (Addr → Value → Option Addr → TS)) → WX
  | [] => Wout
  | (c, i, ts) :: r => fun cls d σ H => ∃ b, PySem.W.exmOne K cls c = some b ∧
    (b = true → ∀ a, H a = none → ts a cls d { nx := fun σ' H' => D.nx (σ'.set i none) H', rt := D.rt, bk := fun σ' H' => D.bk (σ'.set i none) H', ct := fun σ' H' => D.ct (σ'.set i none) H' } (σ.set i (some (.ref a))) H) ∧
    (b = false → wAsMany K Wout D r cls d σ H)
inductive HdsAs (X : Cx) : List ExceptHandler → List (Value × Nat × (Addr → Value → Option Addr → TS)) → Prop
  | nil : HdsAs X [] []
  | cons {x n : Str} {c : Value} {i : Nat} {ts : Addr → Value → Option Addr → TS} {b₀ : Stmt} {suite : List Stmt} {np pos' : Pos} {hds : List ExceptHandler} {l : List (Value × Nat × (Addr → Value → Option Addr → TS))} (hi : X.N[i]? = some n) (hln : X.env.kindOf n = some .local) (hc : Names X x c)
      (hsu : ∀ (a : Addr) (oe : Obj) (cls : Value) (d : Option Addr) (pn : List (Addr × Obj)), Zc cls d oe → (∃ vs, oe.data = .fields vs) → PSs (X.suite a ((a, oe) :: pn)) (b₀ :: suite) (ts a cls d)) (r : HdsAs X hds l) :
      HdsAs X (.ExceptHandler (some (.Name x np)) (some n) (b₀ :: suite) pos' :: hds) ((c, i, ts) :: l)
section
variable {X : Cx} {body : List Stmt} {h₀ : ExceptHandler} {hds : List ExceptHandler} {l : List (Value × Nat × (Addr → Value → Option Addr → TS))} {pos : Pos} {tb : WX → TS} {Wout : WX}
theorem ps_try_asMany (hs : X.stack = X.env :: X.outer) (hf : X.env.frame = some X.env.locals) (hN : X.N.Nodup) (tk : Takes X Wout)
    (hb : ∀ (W : WX) (pn : List (Addr × Obj)) (xe : Value → Shared → Prop), Takes (X.tr pn xe) W → PassesOwn (model X.prog X.w) X.A X.env xe → PSs (X.tr pn xe) body (tb W))
    (hh : HdsAs X (h₀ :: hds) l) : PS X (.Try body (h₀ :: hds) [] [] pos) (fun D σ H => tb (wAsMany X.K Wout D l) D σ H) := by
  refine ⟨fun pins s σ H D I h => ?_⟩
  have ok := I.ok
  have hfr : X.A.frames = some (X.env :: X.outer) := by rw [ok.frames, hs]
  refine wpAny_Try_except ?_
  refine wpAny_mono ((hb (wAsMany X.K Wout D l) (X.pn ++ pins) (fun e s₁ => wpAny (model X.prog X.w) X.A (noteFrame e X.env) (fun _ s₂ => wpAny (model X.prog X.w) X.A (setFlight e none) (fun _ s₃ =>
    wpAny (model X.prog X.w) X.A (handleBy e X.env (h₀ :: hds)) (SP X pins D) X.xe s₃) X.xe s₂) X.xe s₁) (fun u s' xx => ?_) PassesOwn.looking).run [] s σ H D (I.toTry _) h) (fun f s1 hsp => ?_) (fun e s1 he => he)
  · obtain ⟨a, B, sI, pins', σ', H', cls, d, rfl, J', nb, up, sky, na, os, ag, w⟩ := xx
    have J : Inv X pins σ' H' sI := J'.ofTry ok
    have sky' : Sky B (X.env :: X.outer) a (Zc cls d) X.env.locals s'.heap := by rw [← hs]; exact sky
    show wpAny (model X.prog X.w) X.A (noteFrame (.ref a) X.env) _ _ _
    refine Sky.land Zc.steady hfr hf sky' fun h3 fl3 up3 => ?_
    have J3 : Inv X pins σ' H' { s' with heap := h3 } := J.landed nb fl3.1 (up.trans up3) os ag
    obtain ⟨oe3, vs3, he3, hz3, hd3⟩ := fl3.there
    have notFr : ∀ {h : Heap} {o : Obj} {vs : Array Value}, h.FunFrames B (X.env :: X.outer) → h.get? a = some o → o.data = .fields vs → a ∉ frs (X.env :: X.outer) := fun {h o vs} ff e dd hm => by
      obtain ⟨_, o', e', hnf⟩ := ff.mem hm
      rw [e] at e'; cases e'
      exact hnf _ dd
    have nfr := notFr fl3.2.2.1 he3 hd3
    have nL : a ≠ X.env.locals := fun z => nfr (List.mem_filterMap.mpr ⟨X.env, List.mem_cons_self, by rw [hf, z]⟩)
    have nF : a ∉ X.fs := fun hm => by
      obtain ⟨e, he, q⟩ := List.mem_filterMap.mp hm
      exact nfr (List.mem_filterMap.mpr ⟨e, List.mem_cons_of_mem _ he, q⟩)
    have S3 := J3.suite he3 hd3 na nL nF
    have go : ∀ {hds' : List ExceptHandler} {l' : List (Value × Nat × (Addr → Value → Option Addr → TS))}, HdsAs X hds' l' → wAsMany X.K Wout D l' cls d σ' H' →
        wpAny (model X.prog X.w) X.A (handleBy (.ref a) X.env hds') (SP X pins D) X.xe { s' with heap := h3 } := by
      intro hds' l' hk
      induction hk with
      | nil =>
        intro w
        refine wpAny_handleBy_nil ?_
        obtain ⟨k1, k2, k3, oe, vs, T, oT, ts', he, hz, hd, h1, hr⟩ := id fl3
        unfold PySem.passOn
        refine wpAny_bind (wpAny_field he hd h1 ?_)
        rw [if_neg (show ¬ ((Value.ref T == Value.none) = true) from by simp)]
        have fin : wpAny (model X.prog X.w) X.A (setFlight (.ref a) X.env.frame) (fun _ s4 => wpAny (model X.prog X.w) X.A (throw (.ref a) : Sem Flow) (SP X pins D) X.xe s4) X.xe { s' with heap := h3 } := by
          rw [hf]
          refine HandSPX.setFlight_upZ fl3 fun h4 hh4 up4 => wpAny_throw (tk _ _ ?_)
          exact ⟨a, B, sI, pins, σ', H', cls, d, rfl, J, nb, (up.trans up3).trans up4, .inr (.inr (by rw [hs]; exact hh4)), na, os, ag, w⟩
        first
          | exact wpAny_bind (wpAny_pure (wpAny_bind fin))
          | exact wpAny_bind fin
      | @cons x n c i ts b₀ suite np pos' hds2 l2 hi hln hc hsu r ih =>
        intro w
        have hloc : Loc X.env.scope n := .inl hln
        obtain ⟨b, hb1, hyes, hno⟩ := w
        refine wpAny_handleBy_cons (codeAny_handlers_test ?_) (by intro q; cases q)
        have LT : PySem.W.Looks (model X.prog X.w) h3 (typeOf (.ref a)) cls := fun A Q E s k q => wpAny_typeOf_ref (k _ _ he3) (by rw [hz3.1]; exact q)
        have LM := PySem.W.exm_one (M := model X.prog X.w) (J3.kIn) LT hb1
        have test : ∀ {Q : Value → Shared → Prop} {E : Value → Shared → Prop}, Q c { s' with heap := h3 } → wpAny (model X.prog X.w) (X.A.mark (some (.ref a))) (eval (.Name x np) X.env) Q E { s' with heap := h3 } := fun {Q E} q => by
          obtain ⟨hg, hdbg, hm | ⟨hm, hv, hnn⟩⟩ := hc
          · exact ld_glob (X := X.suite a ((a, oe3) :: (X.pn ++ pins))) S3 hg hm q hdbg
          · exact ld_blt (X := X.suite a ((a, oe3) :: (X.pn ++ pins))) S3 hg hm hv q hnn hdbg
        refine test (LM.here ?_)
        cases b with
        | true =>
          refine codeAny_handlers_suite_as ?_
          refine HandSPX.lands_againZ fl3 fun h4 fl4 up4 => ?_
          have J4 : Inv X pins σ' H' { s' with heap := h4 } := J.landed nb fl4.1 ((up.trans up3).trans up4) os ag
          obtain ⟨oe4, vs4, he4, hz4, hd4⟩ := fl4.there
          have S4 := J4.suite he4 hd4 na nL nF
          refine store_ok (X := X.suite a ((a, oe4) :: (X.pn ++ pins))) (v := .ref a) S4 hN hi hloc rfl (fun s5 S5 => ?_) (.inr hln)
          refine wpAny_mono ((hsu a oe4 cls d (X.pn ++ pins) hz4 ⟨_, hd4⟩).run [] s5 _ H' _ S5 (hyes rfl a na)) (fun f s6 hsp => ?_) (fun _ _ z => False.elim z)
          have end_ : ∀ {σ6 : L2.St} {H6 : Hp} {Q : Shared → Prop}, Inv (X.suite a ((a, oe4) :: (X.pn ++ pins))) [] σ6 H6 s6 → (∀ s7, Inv X pins (σ6.set i none) H6 s7 → Q s7) →
              wpAny (model X.prog X.w) X.A (do bindName X.env n .none; unbindBehindTheSuite X.env n pos') (fun _ s7 => Q s7) X.xe s6 := fun {σ6 H6 Q} S6 hq => gone_ok (S6.unsuite ok) hN hi hln hq
          cases f with
          | next =>
            obtain ⟨σ6, H6, S6, q6⟩ := hsp
            exact end_ S6 fun s7 J7 => ⟨_, _, J7, q6⟩
          | brk =>
            obtain ⟨σ6, H6, S6, q6⟩ := hsp
            exact end_ S6 fun s7 J7 => ⟨_, _, J7, q6⟩
          | cont =>
            obtain ⟨σ6, H6, S6, q6⟩ := hsp
            exact end_ S6 fun s7 J7 => ⟨_, _, J7, q6⟩
          | ret u =>
            obtain ⟨v6, σ6, H6, S6, r6, q6⟩ := hsp
            exact end_ S6 fun s7 J7 => ⟨_, _, _, J7, r6, q6⟩
        | false =>
          show wpAny _ X.A (handleBy (.ref a) X.env hds2) _ _ _
          exact ih (hno rfl)
    exact go hh w
  · cases f with
    | next =>
      obtain ⟨σ', H', J', q⟩ := hsp
      exact wpAny_execs_nil ⟨σ', H', J'.ofTry ok, q⟩
    | brk =>
      obtain ⟨σ', H', J', q⟩ := hsp
      exact ⟨σ', H', J'.ofTry ok, q⟩
    | cont =>
      obtain ⟨σ', H', J', q⟩ := hsp
      exact ⟨σ', H', J'.ofTry ok, q⟩
    | ret u =>
      obtain ⟨v, σ', H', J', r, q⟩ := hsp
      exact ⟨v, σ', H', J'.ofTry ok, r, q⟩
end
end My
namespace My
open PySem PySem.Spec PyProof.Rows L2
def top (i : Nat) : Stmt := PySem.Challenge.pw_eitherbarter_k27_costs.main.body.getD i (.Pass ⟨0, 0, 0, 0⟩)
abbrev s_wall : Stmt := top 0
abbrev s_is_word : Stmt := top 12
abbrev s_is_integer : Stmt := top 13
abbrev s_is_number : Stmt := top 14
abbrev s_check_account : Stmt := top 16
abbrev s_cost : Stmt := top 17
abbrev s_cost_of : Stmt := top 18
abbrev s_check_prices : Stmt := top 19
abbrev s_cancels_at : Stmt := top 20
abbrev s_wrong_goods : Stmt := top 23
abbrev s_wrong_barters : Stmt := top 24
abbrev s_wrong_barter : Stmt := top 25
abbrev s_wrong_row : Stmt := top 26
abbrev s_is_mixed : Stmt := top 27
abbrev s_law_wrong_account : Stmt := top 29
abbrev s_law_source : Stmt := top 30
abbrev s_law_pick : Stmt := top 31
abbrev s_law_names : Stmt := top 32
abbrev s_law_made : Stmt := top 33
abbrev s_law_of : Stmt := top 34
abbrev s_law_mixed : Stmt := top 35
abbrev s_law_any_row : Stmt := top 36
abbrev s_law_any_book : Stmt := top 37
abbrev s_law_tree : Stmt := top 38
abbrev s_law_leaves : Stmt := top 39
abbrev s_law_forked : Stmt := top 40
abbrev s_law_book : Stmt := top 41
abbrev s_law_plus : Stmt := top 42
abbrev s_law_summed : Stmt := top 43
abbrev s_law_account : Stmt := top 44
abbrev s_law_some_book : Stmt := top 45
abbrev s_law_odd : Stmt := top 46
abbrev s_law_near_accounts : Stmt := top 47
abbrev s_law_caught : Stmt := top 48
abbrev s_law_due : Stmt := top 49
abbrev s_law : Stmt := top 50
theorem sc_wall : FnScope ["k"] ["k"] (defScope s_wall) := ⟨rfl, rfl, rfl, by decide +kernel, rfl, by decide +kernel, by decide +kernel⟩
theorem sc_is_word : FnScope ["value", "sign"] ["value"] (defScope s_is_word) := ⟨rfl, rfl, rfl, by decide +kernel, rfl, by decide +kernel, by decide +kernel⟩
theorem sc_is_integer : FnScope ["value"] ["value"] (defScope s_is_integer) := ⟨rfl, rfl, rfl, by decide +kernel, rfl, by decide +kernel, by decide +kernel⟩
theorem sc_is_number : FnScope ["value"] ["value"] (defScope s_is_number) := ⟨rfl, rfl, rfl, by decide +kernel, rfl, by decide +kernel, by decide +kernel⟩
theorem sc_check_account : FnScope ["book", "account", "k", "number"] ["book", "account"] (defScope s_check_account) := ⟨rfl, rfl, rfl, by decide +kernel, rfl, by decide +kernel, by decide +kernel⟩
theorem sc_cost : FnScope ["book", "account", "prices"] ["book", "account", "prices"] (defScope s_cost) := ⟨rfl, rfl, rfl, by decide +kernel, rfl, by decide +kernel, by decide +kernel⟩
theorem sc_cost_of : FnScope ["account", "prices", "number", "price"] ["account", "prices"] (defScope s_cost_of) := ⟨rfl, rfl, rfl, by decide +kernel, rfl, by decide +kernel, by decide +kernel⟩
theorem sc_check_prices : FnScope ["book", "prices", "k", "price"] ["book", "prices"] (defScope s_check_prices) := ⟨rfl, rfl, rfl, by decide +kernel, rfl, by decide +kernel, by decide +kernel⟩
theorem sc_cancels_at : FnScope ["book", "one", "other", "names", "k", "name"] ["book", "one", "other"] (defScope s_cancels_at) := ⟨rfl, rfl, rfl, by decide +kernel, rfl, by decide +kernel, by decide +kernel⟩
theorem sc_wrong_goods : FnScope ["goods", "told", "k", "good"] ["goods"] (defScope s_wrong_goods) := ⟨rfl, rfl, rfl, by decide +kernel, rfl, by decide +kernel, by decide +kernel⟩
theorem sc_wrong_barters : FnScope ["barters", "many", "told", "k", "barter", "path"] ["barters", "many"] (defScope s_wrong_barters) := ⟨rfl, rfl, rfl, by decide +kernel, rfl, by decide +kernel, by decide +kernel⟩
theorem sc_wrong_barter : FnScope ["barter", "told", "many", "name", "row", "path"] ["barter", "told", "many"] (defScope s_wrong_barter) := ⟨rfl, rfl, rfl, by decide +kernel, rfl, by decide +kernel, by decide +kernel⟩
theorem sc_wrong_row : FnScope ["row", "many", "j", "entry"] ["row", "many"] (defScope s_wrong_row) := ⟨rfl, rfl, rfl, by decide +kernel, rfl, by decide +kernel, by decide +kernel⟩
theorem sc_is_mixed : FnScope ["entries", "entry"] ["entries"] (defScope s_is_mixed) := ⟨rfl, rfl, rfl, by decide +kernel, rfl, by decide +kernel, by decide +kernel⟩
theorem sc_law_wrong_account : FnScope ["_law_world", "_law_value", "_law_wrong", "_law_k"] ["_law_world", "_law_value"] (defScope s_law_wrong_account) := ⟨rfl, rfl, rfl, by decide +kernel, rfl, by decide +kernel, by decide +kernel⟩
theorem sc_law_source : FnScope ["_law_script", "_law_mixed_here", "_law_cell"] ["_law_script"] (defScope s_law_source) := ⟨rfl, rfl, rfl, by decide +kernel, rfl, by decide +kernel, by decide +kernel⟩
theorem sc_law_pick : FnScope ["_law_source_here", "_law_many", "_law_left", "_law_mixed_here"] ["_law_source_here", "_law_many"] (defScope s_law_pick) := ⟨rfl, rfl, rfl, by decide +kernel, rfl, by decide +kernel, by decide +kernel⟩
theorem sc_law_names : FnScope ["_law_source_here", "_law_many", "_law_shift", "_law_names_here", "_law_tails", "_law_k", "_law_letter"] ["_law_source_here", "_law_many"] (defScope s_law_names) := ⟨rfl, rfl, rfl, by decide +kernel, rfl, by decide +kernel, by decide +kernel⟩
theorem sc_law_made : FnScope ["_law_goods", "_law_barters"] ["_law_goods", "_law_barters"] (defScope s_law_made) := ⟨rfl, rfl, rfl, by decide +kernel, rfl, by decide +kernel, by decide +kernel⟩
theorem sc_law_of : FnScope ["_law_source_here", "_law_some"] ["_law_source_here", "_law_some"] (defScope s_law_of) := ⟨rfl, rfl, rfl, by decide +kernel, rfl, by decide +kernel, by decide +kernel⟩
theorem sc_law_mixed : FnScope ["_law_source_here", "_law_things", "_law_ahead", "_law_lap"] ["_law_source_here", "_law_things"] (defScope s_law_mixed) := ⟨rfl, rfl, rfl, by decide +kernel, rfl, by decide +kernel, by decide +kernel⟩
theorem sc_law_any_row : FnScope ["_law_source_here", "_law_size", "_law_row", "_law_here", "_law_k"] ["_law_source_here", "_law_size"] (defScope s_law_any_row) := ⟨rfl, rfl, rfl, by decide +kernel, rfl, by decide +kernel, by decide +kernel⟩
theorem sc_law_any_book : FnScope ["_law_source_here", "_law_most", "_law_goods", "_law_names_here", "_law_name"] ["_law_source_here", "_law_most"] (defScope s_law_any_book) := ⟨rfl, rfl, rfl, by decide +kernel, rfl, by decide +kernel, by decide +kernel⟩
theorem sc_law_tree : FnScope ["_law_source_here", "_law_goods", "_law_at", "_law_some"] ["_law_source_here", "_law_goods"] (defScope s_law_tree) := ⟨rfl, rfl, rfl, by decide +kernel, rfl, by decide +kernel, by decide +kernel⟩
theorem sc_law_leaves : FnScope ["_law_tree_here"] ["_law_tree_here"] (defScope s_law_leaves) := ⟨rfl, rfl, rfl, by decide +kernel, rfl, by decide +kernel, by decide +kernel⟩
theorem sc_law_forked : FnScope ["_law_source_here", "_law_tree_here", "_law_goods", "_law_share", "_law_rows", "_law_row", "_law_sign", "_law_side", "_law_part", "_law_good"] ["_law_source_here", "_law_tree_here", "_law_goods", "_law_share", "_law_rows"] (defScope s_law_forked) := ⟨rfl, rfl, rfl, by decide +kernel, rfl, by decide +kernel, by decide +kernel⟩
theorem sc_law_book : FnScope ["_law_source_here", "_law_most", "_law_goods", "_law_tree_here", "_law_rows", "_law_found"] ["_law_source_here", "_law_most"] (defScope s_law_book) := ⟨rfl, rfl, rfl, by decide +kernel, rfl, by decide +kernel, by decide +kernel⟩
theorem sc_law_plus : FnScope ["_law_stock", "_law_row", "_law_times", "_law_k"] ["_law_stock", "_law_row", "_law_times"] (defScope s_law_plus) := ⟨rfl, rfl, rfl, by decide +kernel, rfl, by decide +kernel, by decide +kernel⟩
theorem sc_law_summed : FnScope ["_law_world", "_law_stock", "_law_account_here", "_law_pair", "_law_times"] ["_law_world", "_law_stock", "_law_account_here"] (defScope s_law_summed) := ⟨rfl, rfl, rfl, by decide +kernel, rfl, by decide +kernel, by decide +kernel⟩
theorem sc_law_account : FnScope ["_law_source_here", "_law_world", "_law_most", "_law_pair"] ["_law_source_here", "_law_world", "_law_most"] (defScope s_law_account) := ⟨rfl, rfl, rfl, by decide +kernel, rfl, by decide +kernel, by decide +kernel⟩
theorem sc_law_some_book : FnScope ["_law_source_here", "_law_way", "_law_world", "_law_size", "_law_more", "_law_name", "_law_row"] ["_law_source_here"] (defScope s_law_some_book) := ⟨rfl, rfl, rfl, by decide +kernel, rfl, by decide +kernel, by decide +kernel⟩
theorem sc_law_odd : FnScope ["_law_source_here", "_law_some"] ["_law_source_here"] (defScope s_law_odd) := ⟨rfl, rfl, rfl, by decide +kernel, rfl, by decide +kernel, by decide +kernel⟩
theorem sc_law_near_accounts : FnScope ["_law_source_here", "_law_world", "_law_account_here", "_law_odd_here", "_law_many", "_law_k", "_law_found", "_law_one"] ["_law_source_here", "_law_world", "_law_account_here"] (defScope s_law_near_accounts) := ⟨rfl, rfl, rfl, by decide +kernel, rfl, by decide +kernel, by decide +kernel⟩
theorem sc_law_caught : FnScope ["_law_call", "e"] ["_law_call"] (defScope s_law_caught) := ⟨rfl, rfl, rfl, by decide +kernel, rfl, by decide +kernel, by decide +kernel⟩
theorem sc_law_due : FnScope ["_law_world", "_law_account_here", "_law_prices", "_law_wrong", "_law_k"] ["_law_world", "_law_account_here", "_law_prices"] (defScope s_law_due) := ⟨rfl, rfl, rfl, by decide +kernel, rfl, by decide +kernel, by decide +kernel⟩
theorem sc_law : FnScope ["_law_script", "_law_source_here", "_law_turn", "_law_world", "_law_book_here", "_law_account_here", "_law_other", "_law_prices", "_law_odd_here", "_law_k", "_law_some", "_law_value", "_law_kept", "_law_paid", "_law_both", "_law_apart", "_law_number", "_law_n"] ["_law_script"] (defScope s_law) := ⟨rfl, rfl, rfl, by decide +kernel, rfl, by decide +kernel, by decide +kernel⟩
abbrev s_Book_init : Stmt := inClass (top 22) 0
theorem sc_Book_init : FnScope ["self", "goods", "barters", "path", "j", "good", "k", "name", "row"] ["self", "goods", "barters"] (defScope s_Book_init) := ⟨rfl, rfl, rfl, by decide +kernel, rfl, by decide +kernel, by decide +kernel⟩
abbrev s_Book_names : Stmt := inClass (top 22) 4
theorem sc_Book_names : FnScope ["self", "barter"] ["self"] (defScope s_Book_names) := ⟨rfl, rfl, rfl, by decide +kernel, rfl, by decide +kernel, by decide +kernel⟩
abbrev s_Book_barters : Stmt := inClass (top 22) 3
theorem sc_Book_barters : FnScope ["self"] ["self"] (defScope s_Book_barters) := ⟨rfl, rfl, rfl, by decide +kernel, rfl, by decide +kernel, by decide +kernel⟩
abbrev s_Book_goods : Stmt := inClass (top 22) 2
theorem sc_Book_goods : FnScope ["self"] ["self"] (defScope s_Book_goods) := ⟨rfl, rfl, rfl, by decide +kernel, rfl, by decide +kernel, by decide +kernel⟩
abbrev s_BadAccount : Stmt := top 4
theorem sc_BadAccount : FnScope ["self", "path"] ["self", "path"] (defScope (initOf s_BadAccount)) := ⟨rfl, rfl, rfl, by decide +kernel, rfl, by decide +kernel, by decide +kernel⟩
abbrev s_BadPrices : Stmt := top 5
theorem sc_BadPrices : FnScope ["self", "path"] ["self", "path"] (defScope (initOf s_BadPrices)) := ⟨rfl, rfl, rfl, by decide +kernel, rfl, by decide +kernel, by decide +kernel⟩
structure Tx (K : PySem.W.Frag) (mg : Str → Option Value) where
  a_wall : Addr
  fd_wall : FuncData
  F_wall : Fun K "_wall" "_wall" s_wall a_wall fd_wall
  b_wall : Binds K fd_wall ["k"] []
  m_wall : mg "_wall" = some (.ref a_wall)
  a_is_word : Addr
  fd_is_word : FuncData
  F_is_word : Fun K "is_word" "is_word" s_is_word a_is_word fd_is_word
  b_is_word : Binds K fd_is_word ["value"] []
  m_is_word : mg "is_word" = some (.ref a_is_word)
  a_is_integer : Addr
  fd_is_integer : FuncData
  F_is_integer : Fun K "is_integer" "is_integer" s_is_integer a_is_integer fd_is_integer
  b_is_integer : Binds K fd_is_integer ["value"] []
  m_is_integer : mg "is_integer" = some (.ref a_is_integer)
  a_is_number : Addr
  fd_is_number : FuncData
  F_is_number : Fun K "is_number" "is_number" s_is_number a_is_number fd_is_number
  b_is_number : Binds K fd_is_number ["value"] []
  m_is_number : mg "is_number" = some (.ref a_is_number)
  a_check_account : Addr
  fd_check_account : FuncData
  F_check_account : Fun K "check_account" "check_account" s_check_account a_check_account fd_check_account
  b_check_account : Binds K fd_check_account ["book", "account"] []
  m_check_account : mg "check_account" = some (.ref a_check_account)
  a_cost : Addr
  fd_cost : FuncData
  F_cost : Fun K "cost" "cost" s_cost a_cost fd_cost
  b_cost : Binds K fd_cost ["book", "account", "prices"] []
  m_cost : mg "cost" = some (.ref a_cost)
  a_cost_of : Addr
  fd_cost_of : FuncData
  F_cost_of : Fun K "cost_of" "cost_of" s_cost_of a_cost_of fd_cost_of
  b_cost_of : Binds K fd_cost_of ["account", "prices"] []
  m_cost_of : mg "cost_of" = some (.ref a_cost_of)
  a_check_prices : Addr
  fd_check_prices : FuncData
  F_check_prices : Fun K "check_prices" "check_prices" s_check_prices a_check_prices fd_check_prices
  b_check_prices : Binds K fd_check_prices ["book", "prices"] []
  m_check_prices : mg "check_prices" = some (.ref a_check_prices)
  a_cancels_at : Addr
  fd_cancels_at : FuncData
  F_cancels_at : Fun K "cancels_at" "cancels_at" s_cancels_at a_cancels_at fd_cancels_at
  b_cancels_at : Binds K fd_cancels_at ["book", "one", "other"] []
  m_cancels_at : mg "cancels_at" = some (.ref a_cancels_at)
  a_wrong_goods : Addr
  fd_wrong_goods : FuncData
  F_wrong_goods : Fun K "wrong_goods" "wrong_goods" s_wrong_goods a_wrong_goods fd_wrong_goods
  b_wrong_goods : Binds K fd_wrong_goods ["goods"] []
  m_wrong_goods : mg "wrong_goods" = some (.ref a_wrong_goods)
  a_wrong_barters : Addr
  fd_wrong_barters : FuncData
  F_wrong_barters : Fun K "wrong_barters" "wrong_barters" s_wrong_barters a_wrong_barters fd_wrong_barters
  b_wrong_barters : Binds K fd_wrong_barters ["barters", "many"] []
  m_wrong_barters : mg "wrong_barters" = some (.ref a_wrong_barters)
  a_wrong_barter : Addr
  fd_wrong_barter : FuncData
  F_wrong_barter : Fun K "wrong_barter" "wrong_barter" s_wrong_barter a_wrong_barter fd_wrong_barter
  b_wrong_barter : Binds K fd_wrong_barter ["barter", "told", "many"] []
  m_wrong_barter : mg "wrong_barter" = some (.ref a_wrong_barter)
  a_wrong_row : Addr
  fd_wrong_row : FuncData
  F_wrong_row : Fun K "wrong_row" "wrong_row" s_wrong_row a_wrong_row fd_wrong_row
  b_wrong_row : Binds K fd_wrong_row ["row", "many"] []
  m_wrong_row : mg "wrong_row" = some (.ref a_wrong_row)
  a_is_mixed : Addr
  fd_is_mixed : FuncData
  F_is_mixed : Fun K "is_mixed" "is_mixed" s_is_mixed a_is_mixed fd_is_mixed
  b_is_mixed : Binds K fd_is_mixed ["entries"] []
  m_is_mixed : mg "is_mixed" = some (.ref a_is_mixed)
  a_law_wrong_account : Addr
  fd_law_wrong_account : FuncData
  F_law_wrong_account : Fun K "_law_wrong_account" "_law_wrong_account" s_law_wrong_account a_law_wrong_account fd_law_wrong_account
  b_law_wrong_account : Binds K fd_law_wrong_account ["_law_world", "_law_value"] []
  m_law_wrong_account : mg "_law_wrong_account" = some (.ref a_law_wrong_account)
  a_law_source : Addr
  fd_law_source : FuncData
  F_law_source : Fun K "_law_source" "_law_source" s_law_source a_law_source fd_law_source
  b_law_source : Binds K fd_law_source ["_law_script"] []
  m_law_source : mg "_law_source" = some (.ref a_law_source)
  a_law_pick : Addr
  fd_law_pick : FuncData
  F_law_pick : Fun K "_law_pick" "_law_pick" s_law_pick a_law_pick fd_law_pick
  b_law_pick : Binds K fd_law_pick ["_law_source_here", "_law_many"] []
  m_law_pick : mg "_law_pick" = some (.ref a_law_pick)
  a_law_names : Addr
  fd_law_names : FuncData
  F_law_names : Fun K "_law_names" "_law_names" s_law_names a_law_names fd_law_names
  b_law_names : Binds K fd_law_names ["_law_source_here", "_law_many"] []
  m_law_names : mg "_law_names" = some (.ref a_law_names)
  a_law_made : Addr
  fd_law_made : FuncData
  F_law_made : Fun K "_law_made" "_law_made" s_law_made a_law_made fd_law_made
  b_law_made : Binds K fd_law_made ["_law_goods", "_law_barters"] []
  m_law_made : mg "_law_made" = some (.ref a_law_made)
  a_law_of : Addr
  fd_law_of : FuncData
  F_law_of : Fun K "_law_of" "_law_of" s_law_of a_law_of fd_law_of
  b_law_of : Binds K fd_law_of ["_law_source_here", "_law_some"] []
  m_law_of : mg "_law_of" = some (.ref a_law_of)
  a_law_mixed : Addr
  fd_law_mixed : FuncData
  F_law_mixed : Fun K "_law_mixed" "_law_mixed" s_law_mixed a_law_mixed fd_law_mixed
  b_law_mixed : Binds K fd_law_mixed ["_law_source_here", "_law_things"] []
  m_law_mixed : mg "_law_mixed" = some (.ref a_law_mixed)
  a_law_any_row : Addr
  fd_law_any_row : FuncData
  F_law_any_row : Fun K "_law_any_row" "_law_any_row" s_law_any_row a_law_any_row fd_law_any_row
  b_law_any_row : Binds K fd_law_any_row ["_law_source_here", "_law_size"] []
  m_law_any_row : mg "_law_any_row" = some (.ref a_law_any_row)
  a_law_any_book : Addr
  fd_law_any_book : FuncData
  F_law_any_book : Fun K "_law_any_book" "_law_any_book" s_law_any_book a_law_any_book fd_law_any_book
  b_law_any_book : Binds K fd_law_any_book ["_law_source_here", "_law_most"] []
  m_law_any_book : mg "_law_any_book" = some (.ref a_law_any_book)
  a_law_tree : Addr
  fd_law_tree : FuncData
  F_law_tree : Fun K "_law_tree" "_law_tree" s_law_tree a_law_tree fd_law_tree
  b_law_tree : Binds K fd_law_tree ["_law_source_here", "_law_goods"] []
  m_law_tree : mg "_law_tree" = some (.ref a_law_tree)
  a_law_leaves : Addr
  fd_law_leaves : FuncData
  F_law_leaves : Fun K "_law_leaves" "_law_leaves" s_law_leaves a_law_leaves fd_law_leaves
  b_law_leaves : Binds K fd_law_leaves ["_law_tree_here"] []
  m_law_leaves : mg "_law_leaves" = some (.ref a_law_leaves)
  a_law_forked : Addr
  fd_law_forked : FuncData
  F_law_forked : Fun K "_law_forked" "_law_forked" s_law_forked a_law_forked fd_law_forked
  b_law_forked : Binds K fd_law_forked ["_law_source_here", "_law_tree_here", "_law_goods", "_law_share", "_law_rows"] []
  m_law_forked : mg "_law_forked" = some (.ref a_law_forked)
  a_law_book : Addr
  fd_law_book : FuncData
  F_law_book : Fun K "_law_book" "_law_book" s_law_book a_law_book fd_law_book
  b_law_book : Binds K fd_law_book ["_law_source_here", "_law_most"] []
  m_law_book : mg "_law_book" = some (.ref a_law_book)
  a_law_plus : Addr
  fd_law_plus : FuncData
  F_law_plus : Fun K "_law_plus" "_law_plus" s_law_plus a_law_plus fd_law_plus
  b_law_plus : Binds K fd_law_plus ["_law_stock", "_law_row", "_law_times"] []
  m_law_plus : mg "_law_plus" = some (.ref a_law_plus)
  a_law_summed : Addr
  fd_law_summed : FuncData
  F_law_summed : Fun K "_law_summed" "_law_summed" s_law_summed a_law_summed fd_law_summed
  b_law_summed : Binds K fd_law_summed ["_law_world", "_law_stock", "_law_account_here"] []
  m_law_summed : mg "_law_summed" = some (.ref a_law_summed)
  a_law_account : Addr
  fd_law_account : FuncData
  F_law_account : Fun K "_law_account" "_law_account" s_law_account a_law_account fd_law_account
  b_law_account : Binds K fd_law_account ["_law_source_here", "_law_world", "_law_most"] []
  m_law_account : mg "_law_account" = some (.ref a_law_account)
  a_law_some_book : Addr
  fd_law_some_book : FuncData
  F_law_some_book : Fun K "_law_some_book" "_law_some_book" s_law_some_book a_law_some_book fd_law_some_book
  b_law_some_book : Binds K fd_law_some_book ["_law_source_here"] []
  m_law_some_book : mg "_law_some_book" = some (.ref a_law_some_book)
  a_law_odd : Addr
  fd_law_odd : FuncData
  F_law_odd : Fun K "_law_odd" "_law_odd" s_law_odd a_law_odd fd_law_odd
  b_law_odd : Binds K fd_law_odd ["_law_source_here"] []
  m_law_odd : mg "_law_odd" = some (.ref a_law_odd)
  a_law_near_accounts : Addr
  fd_law_near_accounts : FuncData
  F_law_near_accounts : Fun K "_law_near_accounts" "_law_near_accounts" s_law_near_accounts a_law_near_accounts fd_law_near_accounts
  b_law_near_accounts : Binds K fd_law_near_accounts ["_law_source_here", "_law_world", "_law_account_here"] []
  m_law_near_accounts : mg "_law_near_accounts" = some (.ref a_law_near_accounts)
  a_law_caught : Addr
  fd_law_caught : FuncData
  F_law_caught : Fun K "_law_caught" "_law_caught" s_law_caught a_law_caught fd_law_caught
  b_law_caught : Binds K fd_law_caught ["_law_call"] []
  m_law_caught : mg "_law_caught" = some (.ref a_law_caught)
  a_law_due : Addr
  fd_law_due : FuncData
  F_law_due : Fun K "_law_due" "_law_due" s_law_due a_law_due fd_law_due
  b_law_due : Binds K fd_law_due ["_law_world", "_law_account_here", "_law_prices"] []
  m_law_due : mg "_law_due" = some (.ref a_law_due)
  a_law : Addr
  fd_law : FuncData
  F_law : Fun K "law" "law" s_law a_law fd_law
  b_law : Binds K fd_law ["_law_script"] []
  m_law : mg "law" = some (.ref a_law)
  C_Book : Addr
  cl_Book : Cls K C_Book
  m_Book : mg "Book" = some (.ref C_Book)
  na_Book_goods : NoAttr K C_Book "_goods"
  na_Book_barters : NoAttr K C_Book "_barters"
  na_Book_good_numbers : NoAttr K C_Book "_good_numbers"
  na_Book_barter_numbers : NoAttr K C_Book "_barter_numbers"
  a_Book_init : Addr
  fd_Book_init : FuncData
  F_Book_init : Fun K "__init__" "Book.__init__" s_Book_init a_Book_init fd_Book_init
  b_Book_init : Binds K fd_Book_init ["self", "goods", "barters"] []
  M_Book : Mk K C_Book a_Book_init
  a_Book_names : Addr
  fd_Book_names : FuncData
  F_Book_names : Fun K "names" "Book.names" s_Book_names a_Book_names fd_Book_names
  b_Book_names : Binds K fd_Book_names ["self"] []
  me_Book_names : Meth K C_Book "names" a_Book_names
  a_Book_barters : Addr
  fd_Book_barters : FuncData
  F_Book_barters : Fun K "barters" "Book.barters" s_Book_barters a_Book_barters fd_Book_barters
  b_Book_barters : Binds K fd_Book_barters ["self"] []
  me_Book_barters : Meth K C_Book "barters" a_Book_barters
  a_Book_goods : Addr
  fd_Book_goods : FuncData
  F_Book_goods : Fun K "goods" "Book.goods" s_Book_goods a_Book_goods fd_Book_goods
  b_Book_goods : Binds K fd_Book_goods ["self"] []
  me_Book_goods : Meth K C_Book "goods" a_Book_goods
  e_BadAccount : OwnE K mg "BadAccount" "BadAccount.__init__" "path" s_BadAccount
  e_BadPrices : OwnE K mg "BadPrices" "BadPrices.__init__" "path" s_BadPrices
  xm_BadPrices_BadAccount : PySem.W.exmOne K (.ref e_BadPrices.C) (.ref e_BadAccount.C) = some false
  c_DIGITS : ∃ t, mg "DIGITS" = some (.str "0123456789" t)
  c_LETTERS : ∃ t, mg "LETTERS" = some (.str "abcdefghijklmnopqrstuvwxyz" t)
  c_LONGEST_WORD : ∃ t, mg "LONGEST_WORD" = some (.int 12 t)
  n_abs : mg "abs" = none
  n_all : mg "all" = none
  n_any : mg "any" = none
  n_bool : mg "bool" = none
  n_dict : mg "dict" = none
  n_enumerate : mg "enumerate" = none
  n_int : mg "int" = none
  n_isinstance : mg "isinstance" = none
  n_len : mg "len" = none
  n_list : mg "list" = none
  n_max : mg "max" = none
  n_min : mg "min" = none
  n_range : mg "range" = none
  n_repr : mg "repr" = none
  n_str : mg "str" = none
  n_sum : mg "sum" = none
  n_tuple : mg "tuple" = none
  n_zip : mg "zip" = none
end My
namespace My
open PySem PySem.Spec PyProof.Rows L2
/-! ### lexemes, as functions of plain lists -/
abbrev SGN : Str := "(){},;"
abbrev LTR : Str := "abcdefghijklmnopqrstuvwxyz"
abbrev DIG : Str := "0123456789"
abbrev BLK : Str := " \n"
def inS (z : Str) (c : Nat) : Bool := decide (c ∈ z.cps.toList)
def txt (l : List Nat) : Str := ⟨l.toArray⟩
theorem txt_self (z : Str) : txt z.cps.toList = z := by
  obtain ⟨a⟩ := z
  show (⟨a.toList.toArray⟩ : Str) = ⟨a⟩
  rw [Array.toArray_toList]
theorem txt_len (l : List Nat) : (txt l).length = l.length := by
  show l.toArray.size = l.length
  rw [List.size_toArray]
theorem str_len (z : Str) : z.cps.toList.length = z.length := by
  show z.cps.toList.length = z.cps.size
  rw [Array.length_toList]
def runL (p : Nat → Bool) : List Nat → Nat
  | [] => 0
  | c :: r => if p c = true then runL p r + 1 else 0
theorem runL_le (p : Nat → Bool) : ∀ t : List Nat, runL p t ≤ t.length
  | [] => Nat.le_refl _
  | c :: r => by
    have ih := runL_le p r
    show (if p c = true then runL p r + 1 else 0) ≤ r.length + 1
    by_cases h : p c = true
    · rw [if_pos h]; omega
    · rw [if_neg h]; omega
theorem runL_yes {p : Nat → Bool} {c : Nat} {r : List Nat} (h : p c = true) : runL p (c :: r) = runL p r + 1 := if_pos h
theorem runL_no {p : Nat → Bool} {c : Nat} {r : List Nat} (h : p c = false) : runL p (c :: r) = 0 := if_neg (by rw [h]; exact Bool.false_ne_true)
theorem runL_nil {p : Nat → Bool} : runL p [] = 0 := rfl
def lexC (c : Nat) (r : List Nat) : Option (Str × Nat) :=
  if inS SGN c = true then some ("sign", 1)
  else if inS LTR c = true then (if runL (inS (LTR ++ DIG)) (c :: r) ≤ 12 then some ("word", runL (inS (LTR ++ DIG)) (c :: r)) else none)
  else if inS DIG c = true then some ("number", if c = 48 then 1 else runL (inS DIG) (c :: r)) else none
def lexL : List Nat → Option (Str × Nat)
  | [] => none
  | c :: r => lexC c r
theorem in_cat (c : Nat) : inS (LTR ++ DIG) c = (inS LTR c || inS DIG c) := by
  show decide (c ∈ (LTR.cps ++ DIG.cps).toList) = (decide (c ∈ LTR.cps.toList) || decide (c ∈ DIG.cps.toList))
  rw [Array.toList_append]
  by_cases h1 : c ∈ LTR.cps.toList <;> by_cases h2 : c ∈ DIG.cps.toList <;> simp [h1, h2]
theorem lexL_pos {c : Nat} {r : List Nat} {k : Str} {n : Nat} (h : lexL (c :: r) = some (k, n)) : 1 ≤ n ∧ n ≤ (c :: r).length := by
  have h : lexC c r = some (k, n) := h
  unfold lexC at h
  by_cases h1 : inS SGN c = true
  · rw [if_pos h1] at h
    cases h; exact ⟨Nat.le_refl _, Nat.succ_le_succ (Nat.zero_le _)⟩
  rw [if_neg h1] at h
  by_cases h2 : inS LTR c = true
  · rw [if_pos h2] at h
    by_cases h3 : runL (inS (LTR ++ DIG)) (c :: r) ≤ 12
    · rw [if_pos h3] at h
      cases h
      refine ⟨?_, runL_le _ _⟩
      rw [runL_yes (by rw [in_cat, h2]; rfl)]
      omega
    · rw [if_neg h3] at h
      cases h
  rw [if_neg h2] at h
  by_cases h3 : inS DIG c = true
  · rw [if_pos h3] at h
    cases h
    by_cases h4 : c = 48
    · rw [if_pos h4]; exact ⟨Nat.le_refl _, Nat.succ_le_succ (Nat.zero_le _)⟩
    · rw [if_neg h4]
      refine ⟨?_, runL_le _ _⟩
      rw [runL_yes h3]
      omega
  · rw [if_neg h3] at h
    cases h
abbrev Tk := Str × List Nat × Nat
def scanF : Nat → List Nat → Nat → List Tk × Option Nat
  | 0, _, _ => ([], none)
  | _ + 1, [], _ => ([], none)
  | f + 1, c :: r, p => if inS BLK c = true then scanF f r (p + 1) else match lexL (c :: r) with
    | none => ([], some p)
    | some (k, n) => ((k, (c :: r).take n, p) :: (scanF f ((c :: r).drop n) (p + n)).1, (scanF f ((c :: r).drop n) (p + n)).2)
theorem scanF_enough : ∀ (f g : Nat) (t : List Nat) (p : Nat), t.length < f → t.length < g → scanF f t p = scanF g t p
  | 0, _, _, _, h, _ => absurd h (Nat.not_lt_zero _)
  | _ + 1, 0, _, _, _, h => absurd h (Nat.not_lt_zero _)
  | f + 1, g + 1, [], p, _, _ => rfl
  | f + 1, g + 1, c :: r, p, h1, h2 => by
    have l : (c :: r).length = r.length + 1 := rfl
    unfold scanF
    by_cases hb : inS BLK c = true
    · rw [if_pos hb, if_pos hb]
      exact scanF_enough f g r (p + 1) (by omega) (by omega)
    · rw [if_neg hb, if_neg hb]
      cases e : lexL (c :: r) with
      | none => rfl
      | some q =>
        obtain ⟨k, n⟩ := q
        have ⟨n1, n2⟩ := lexL_pos e
        have ih := scanF_enough f g ((c :: r).drop n) (p + n) (by rw [List.length_drop]; omega) (by rw [List.length_drop]; omega)
        show ((k, (c :: r).take n, p) :: (scanF f ((c :: r).drop n) (p + n)).1, (scanF f ((c :: r).drop n) (p + n)).2) = ((k, (c :: r).take n, p) :: (scanF g ((c :: r).drop n) (p + n)).1, (scanF g ((c :: r).drop n) (p + n)).2)
        rw [ih]
def scan (t : List Nat) (p : Nat) : List Tk × Option Nat := scanF (t.length + 1) t p
theorem scan_nil (p : Nat) : scan [] p = ([], none) := rfl
theorem scan_blank {c : Nat} {r : List Nat} {p : Nat} (h : inS BLK c = true) : scan (c :: r) p = scan r (p + 1) := by
  show scanF (r.length + 1 + 1) (c :: r) p = _
  unfold scanF
  rw [if_pos h]
  rfl
theorem scan_none {c : Nat} {r : List Nat} {p : Nat} (h : inS BLK c = false) (e : lexL (c :: r) = none) : scan (c :: r) p = ([], some p) := by
  show scanF (r.length + 1 + 1) (c :: r) p = _
  unfold scanF
  rw [if_neg (by rw [h]; exact Bool.false_ne_true), e]
theorem scan_some {c : Nat} {r : List Nat} {p : Nat} {k : Str} {n : Nat} (h : inS BLK c = false) (e : lexL (c :: r) = some (k, n)) :
    scan (c :: r) p = ((k, (c :: r).take n, p) :: (scan ((c :: r).drop n) (p + n)).1, (scan ((c :: r).drop n) (p + n)).2) := by
  have ⟨n1, n2⟩ := lexL_pos e
  have l : (c :: r).length = r.length + 1 := rfl
  have q : scanF (r.length + 1) ((c :: r).drop n) (p + n) = scan ((c :: r).drop n) (p + n) := scanF_enough _ _ _ _ (by rw [List.length_drop]; omega) (Nat.lt_succ_self _)
  show scanF (r.length + 1 + 1) (c :: r) p = _
  unfold scanF
  rw [if_neg (by rw [h]; exact Bool.false_ne_true), e]
  show ((k, (c :: r).take n, p) :: (scanF (r.length + 1) ((c :: r).drop n) (p + n)).1, (scanF (r.length + 1) ((c :: r).drop n) (p + n)).2) = _
  rw [q]
/-- where the reading stops -/
def stopAt (t : List Nat) (o : Option Nat) : Nat := o.getD t.length
theorem at_drop {t : List Nat} {p : Nat} (h : p < t.length) : t.drop p = t[p] :: t.drop (p + 1) := List.drop_eq_getElem_cons h
/-! the tuples of lexemes, in the heap -/
def tkV (t : Tk) : List V := [.str t.1, .str (txt t.2.1), .int (t.2.2 : Nat)]
inductive Tks (H : Hp) : List V → List Tk → Prop
  | nil : Tks H [] []
  | cons {a : Addr} {t : Tk} {xs : List V} {ts : List Tk} (e : H a = some (.tup (tkV t))) (h : Tks H xs ts) : Tks H (.ref a :: xs) (t :: ts)
theorem Tks.keep {H H' : Hp} (g : ∀ a xs, H a = some (.tup xs) → H' a = some (.tup xs)) : ∀ {xs : List V} {ts : List Tk}, Tks H xs ts → Tks H' xs ts
  | _, _, .nil => .nil
  | _, _, .cons e h => .cons (g _ _ e) (h.keep g)
theorem Tks.same {H H' : Hp} {xs : List V} {ts : List Tk} (h : Tks H xs ts) (g : Same H H') : Tks H' xs ts := h.keep fun a _ e => g a _ e
theorem Tks.length {H : Hp} : ∀ {xs : List V} {ts : List Tk}, Tks H xs ts → xs.length = ts.length
  | _, _, .nil => rfl
  | _, _, .cons _ h => congrArg (· + 1) h.length
theorem Tks.snoc {H : Hp} {a : Addr} {t : Tk} (e : H a = some (.tup (tkV t))) : ∀ {xs : List V} {ts : List Tk}, Tks H xs ts → Tks H (xs ++ [.ref a]) (ts ++ [t])
  | _, _, .nil => .cons e .nil
  | _, _, .cons e' h => .cons e' (h.snoc e)
/-- the list at a, which is new, holds these -/
structure TkL (H : Hp) (a : Addr) (ts : List Tk) : Prop where
  at_ : ∃ xs, H a = some (.lst xs) ∧ Tks H xs ts
end My

namespace My
open PySem PySem.Spec PyProof.Rows L2
/-! ### over the signs of a text -/
theorem lc_str {z : Str} {g : TG} {tt : TT} {te : TE} {vs : List Nat} {σ : L2.St} {H1 : Hp} {D : Addr} {Qd : Hp → Prop} (Pv : Nat → Hp → Prop) (h0 : Pv 0 (L2.upd H1 D (.lst [])))
    (hs : ∀ i c H, z.cps.toList[i]? = some c → Pv i H → g (.str ⟨#[c]⟩) (wipe σ vs) H fun σ2 H2 => wipe σ2 vs = wipe σ vs ∧ tt σ2 H2 fun b H3 =>
      if b = true then te σ2 H3 (fun y H4 => ∃ acc, H4 D = some (.lst acc) ∧ acc.length < sizeLine ∧ Pv (i + 1) (L2.upd H4 D (.lst (acc ++ [y])))) else Pv (i + 1) H3)
    (hd : ∀ H, Pv z.length H → Qd H) :
    ∃ W : Nat → Nat → Hp → Prop, (∃ m, W 0 m (L2.upd H1 D (.lst []))) ∧ ∀ i m H, W i m H → ((Its z).stop i H ∧ Qd H) ∨
      ((Its z).go i H ∧ ∃ N : Hp → Prop, (∀ H', N H' → ∃ m', m' < m ∧ W (i + 1) m' H') ∧ ∀ x H', (Its z).yld i H x H' → g x (wipe σ vs) H' fun σ2 H2 => wipe σ2 vs = wipe σ vs ∧ tt σ2 H2 fun b H3 =>
        if b = true then te σ2 H3 (fun y H4 => ∃ acc, H4 D = some (.lst acc) ∧ acc.length < sizeLine ∧ N (L2.upd H4 D (.lst (acc ++ [y])))) else N H3) := by
  refine ⟨fun i m H => m = z.length - i ∧ i ≤ z.length ∧ Pv i H, ⟨z.length, rfl, Nat.zero_le _, h0⟩, fun i m H ⟨em, hi, p⟩ => ?_⟩
  by_cases hlt : i < z.length
  · refine .inr ⟨hlt, Pv (i + 1), fun H' p' => ⟨z.length - (i + 1), by omega, rfl, hlt, p'⟩, fun x H' ⟨e1, c, e2, e3⟩ => ?_⟩
    rw [e1, e3]
    exact hs i c H (by rw [Array.getElem?_toList]; exact e2) p
  · have e : i = z.length := by omega
    exact .inl ⟨Nat.le_of_not_lt hlt, hd H (e ▸ p)⟩
theorem for_str {z : Str} {g : TG} {tb : TS} {D : Ends} {σ : L2.St} {H : Hp} (Pv : Nat → L2.St → Hp → Prop) (h0 : Pv 0 σ H)
    (hs : ∀ i c σ H, z.cps.toList[i]? = some c → Pv i σ H → g (.str ⟨#[c]⟩) σ H fun σ2 H2 => tb { D with nx := Pv (i + 1), ct := Pv (i + 1), bk := D.nx } σ2 H2) (hd : ∀ σ H, Pv z.length σ H → D.nx σ H) :
    ∃ W : Nat → Nat → L2.St → Hp → Prop, (∃ m, W 0 m σ H) ∧ ∀ i m σ H, W i m σ H → ((Its z).stop i H ∧ D.nx σ H) ∨
      ((Its z).go i H ∧ ∃ N : L2.St → Hp → Prop, (∀ σ' H', N σ' H' → ∃ m', m' < m ∧ W (i + 1) m' σ' H') ∧ ∀ x H', (Its z).yld i H x H' → g x σ H' fun σ2 H2 => tb { D with nx := N, ct := N, bk := D.nx } σ2 H2) := by
  refine ⟨fun i m σ H => m = z.length - i ∧ i ≤ z.length ∧ Pv i σ H, ⟨z.length, rfl, Nat.zero_le _, h0⟩, fun i m σ H ⟨em, hi, p⟩ => ?_⟩
  by_cases hlt : i < z.length
  · refine .inr ⟨hlt, Pv (i + 1), fun σ' H' p' => ⟨z.length - (i + 1), by omega, rfl, hlt, p'⟩, fun x H' ⟨e1, c, e2, e3⟩ => ?_⟩
    rw [e1, e3]
    exact hs i c σ H (by rw [Array.getElem?_toList]; exact e2) p
  · have e : i = z.length := by omega
    exact .inl ⟨Nat.le_of_not_lt hlt, hd σ H (e ▸ p)⟩
end My

namespace My
open PySem PySem.Spec PyProof.Rows L2
/-! ### a def that is called where nothing is being shown: its body may show values -/
structure FnG (P : Program) (w : World) (K : PySem.W.Frag) (mg : Str → Option Value) (base : Heap) (k : Nat) (f : Addr) (fd : FuncData) (ps : List Str) (sp : Sp) : Prop where
  len : ∀ vs H Q E, sp vs H Q E → vs.length = ps.length
  run : ∀ (A : Around), A.guards = some [] → Room k A → ∀ (outer : List Env) (s : Shared) (H : Hp), Env0 P w K mg base A outer s H → ∀ (args : Args) (us : List Value), BindsTo s fd args (ps.zip us) →
    ∀ (vs : List V), Vals vs us → ∀ (Q : VK) (E : XK), sp vs H Q E → codeAny (model P w) A (.call (.ref f) args) (CR CX0 outer P w H s Q E) s
section
variable {P : Program} {w : World} {K : PySem.W.Frag} {mg : Str → Option Value} {base : Heap}
theorem FnG.of {x qual : Str} {st : Stmt} {f : Addr} {fd : FuncData} {N ps : List Str} {k : Nat} {sp : Sp} (F : Fun K x qual st f fd) (S : FnScope N ps (defScope st)) (len : ∀ vs H Q E, sp vs H Q E → vs.length = ps.length)
    (body : ∀ (cdv : Value) (A : Around) (outer : List Env) (s : Shared) (H : Hp) (vs : List V) (Q : VK) (E : XK), A.guards = some [] → Room k (A.deeper (envOfC qual (defScope st) s.heap.objs.size f cdv)) → sp vs H Q E →
      ∃ t, PSs (cxOf CX0 P w K mg base N qual (defScope st) f cdv A outer s H E).nox (defBody st) t ∧ t { nx := fun _ H' => Q .non H', rt := Q } (start N vs) H) :
    FnG P w K mg base (k + 1) f fd ps sp := by
  obtain ⟨oc, od, kV, doc, pm, an, cdv, ct, osl, rfl, lk, hcd⟩ := F.ex
  refine ⟨len, fun A hg hr outer s H e0 args us hb vs r Q E hsp => ?_⟩
  have KX : K.In s.heap := e0.mod.kin.keeps fun b o q => (e0.bs b o q).1
  have nl : s.heap.NoLimit := e0.mod.nolimit.keeps fun b o q => (e0.bs b o q).1
  have kinds : ∀ y ∈ ps.zip us, (defScope st).names.lookup y.1 = some .local ∨ ((defScope st).names.lookup y.1 = some .cell ∧ ((cellsFrom (s.heap.objs.size + 1) (defScope st).names []).lookup y.1).isSome = true) := by
    rintro ⟨n, v⟩ hy
    have q := S.par n (List.of_mem_zip hy).1
    exact q.imp id fun q => ⟨q, PySem.W.cellsFrom_some _ _ _ (.inl q)⟩
  refine codeAny_call_function hr.depth (KX _ _ lk) rfl S.co S.gen rfl (PySem.W.codeRec_of KX hcd) (hb _ _ _ _ (wpAny_newFunctionEnv_cells S.kind kinds fun env he s1 x => ?_))
  subst he
  refine ⟨nl.keeps x.toInCall.keep, codeAny_func ?_⟩
  obtain ⟨t, ht, hq⟩ := body cdv A outer s H vs Q E hg (hr.deeper _) hsp
  have I : Inv (cxOf CX0 P w K mg base N qual (defScope st) f cdv A outer s H E) [] (start N vs) H s1 := inv_start S hr.hd e0 (len _ _ _ _ hsp) r x
  refine wpAny_mono (ht.nox.run [] s1 (start N vs) H _ I hq) (fun fl s' hs => ?_) (fun e s' hs => hs)
  have last : ∀ {σ' : L2.St} {H' : Hp} {v : V} {u : Value}, Inv (cxOf CX0 P w K mg base N qual (defScope st) f cdv A outer s H E) [] σ' H' s' → RelV v u → Q v H' → CE outer P w H s Q u s' := fun J rv q => ⟨_, _, J.os, J.bare, J.base, J.hok, rv, q⟩
  rcases fl with _ | _ | _ | u
  all_goals first
    | (obtain ⟨v, σ', H', J, rv, q⟩ := hs; exact last J rv q)
    | (obtain ⟨σ', H', J, q⟩ := hs; exact last (v := V.non) (u := Value.none) J rfl q)
    | (obtain ⟨_, _, _, q⟩ := hs; exact False.elim q)
/-- the law's def, called by the one who asks for the proof -/
theorem law_runG {k : Nat} {fa a : Addr} {fd : FuncData} {x : Str} {sp : Sp} {mb : Str → Option Value} {s₁ : Shared} {vs : List Value} {ns : List Int}
    (KX : K.In s₁.heap) (hns : s₁.heap.Ns mainGlobals mg) (hb : s₁.heap.Ns builtinsNs mb) (hbb : ∀ x : Str, x ≠ "__name__" → mb x = bootBuiltins x) (nl : s₁.heap.NoLimit) (hg : s₁.gens = #[])
    (ha : s₁.heap.get? a = some { cls := .type "list", data := .seq vs.toArray }) (hi : IntsAre vs ns) (hl : ns.length ≤ sizeLine) (hr : Room k callerA)
    (F : ∀ base : Heap, K.In base → base.Ns mainGlobals mg → FnG P w K mg base k fa fd [x] sp) (bind : ∀ (s : Shared) (u : Value), BindsTo s fd ⟨[u], []⟩ [(x, u)])
    (hsp : ∀ H : Hp, Only H → SqL K H a (ns.map V.int) → sp [.ref a] H (fun v _ => v = .bl true) fun _ _ _ => False) :
    codeAny (model P w) callerA (.call (.ref fa) ⟨[.ref a], []⟩) (fun r s' => r = .ok (.ret (.bool true)) ∧ OldK s₁.heap s'.heap ∧ s'.os = s₁.os ∧ AllBare s'.gens) s₁ := by
  have rv := vals_ints hi
  have lv := hi.length
  have core : ∀ H : Hp, Only H ∧ SqL K H a (ns.map V.int) ∧ HOk P w H s₁.heap ∧ (∀ b, H b ≠ none → b = a) ∧ (H a ≠ none → K.lookup a = none) →
      codeAny (model P w) callerA (.call (.ref fa) ⟨[.ref a], []⟩) (fun r s' => r = .ok (.ret (.bool true)) ∧ OldK s₁.heap s'.heap ∧ s'.os = s₁.os ∧ AllBare s'.gens) s₁ := by
    rintro H ⟨hO, hS, hok, hA, hK⟩
    have no : ∀ {b : Addr}, b ≠ a → H b = none := fun {b} n => by
      cases q : H b with
      | none => rfl
      | some u => exact absurd (hA b fun z => by rw [q] at z; cases z) n
    have dicts : ∀ {b : Addr} {o : Obj} {es : Array DictEntry} {ep : Nat}, s₁.heap.get? b = some o → o.data = .dict es ep → (hidT s₁.heap H).get? b = some o := fun {b o es ep} e d => hidT_get e (no fun z => by
      rw [z, ha] at e
      have e' := Option.some.inj e
      rw [← e'] at d
      exact Data.noConfusion d)
    have nsK : ∀ {b : Addr} {m : Str → Option Value}, s₁.heap.Ns b m → (hidT s₁.heap H).Ns b m := fun z => by
      obtain ⟨o, es, ep, e, d, r⟩ := z
      exact ⟨o, es, ep, dicts e d, d, r⟩
    have inK : K.In (hidT s₁.heap H) := fun b o e => by
      refine hidT_get (KX b o e) ?_
      by_cases hb : b = a
      · cases q : H b with
        | none => rfl
        | some u =>
          have z := hK (by rw [← hb, q]; exact fun z => nomatch z)
          rw [hb, z] at e
          cases e
      · exact no hb
    obtain ⟨mc, c1, c2⟩ := nl
    have e0 : Env0 P w K mg (hidT s₁.heap H) callerA [] s₁ H :=
      { frames := rfl, mod := ⟨inK, nsK hns, ⟨mb, nsK hb, hbb⟩, ⟨mc, nsK c1, c2⟩⟩, bs := fun b o e => of_hidT e, bsz := Nat.le_of_eq (hidT_size _ _), funs := trivial, frf := fun b z => absurd z List.not_mem_nil, hok := hok, bare := .of_eq hg }
    refine codeAny_mono ((F _ inK (nsK hns)).run callerA rfl hr [] s₁ H e0 ⟨[.ref a], []⟩ [.ref a] (bind s₁ (.ref a)) [.ref a] (.cons rfl .nil) _ _ (hsp H hO hS)) fun r s' h => ?_
    rcases r with e | fl
    · exact False.elim h
    rcases fl with _ | _ | _ | u
    all_goals first
      | exact False.elim h
      | skip
    obtain ⟨v, H', os, bare, un, hok', r', q⟩ := h
    have q' : v = .bl true := q
    rw [q'] at r'
    have r2 : u = Value.bool true := r'
    refine ⟨by rw [r2], OldK.of_keep fun b o e => ?_, os, bare⟩
    rcases hO b with z | ⟨ob, xs, z⟩
    · exact un.keep b o e z List.not_mem_nil List.not_mem_nil
    · have z1 := (hok b _ z).1
      have z2 := (hok' b _ (un.frzs b ob _ z)).1
      rw [e] at z1
      cases z1
      exact z2
  cases hk : K.lookup a with
  | some o =>
    have e := KX a o hk
    rw [ha] at e
    cases e
    exact core (fun _ => none) ⟨fun _ => .inl rfl, .inr ⟨_, vs.toArray, _, hk, rfl, rfl, rfl, by rw [List.size_toArray, lv]; exact hl, by simpa using rv⟩, (fun b u z => nomatch z), fun b z => absurd rfl z, fun z => absurd rfl z⟩
  | none =>
    have at_ : ∀ {b : Addr} {u : HO}, (if b = a then some (HO.frz { cls := .type "list", data := .seq vs.toArray } (.lst (ns.map V.int))) else none) = some u → b = a ∧ u = HO.frz { cls := .type "list", data := .seq vs.toArray } (.lst (ns.map V.int)) := fun {b u} z => by
      by_cases h : b = a
      · rw [if_pos h] at z; exact ⟨h, (Option.some.inj z).symm⟩
      · rw [if_neg h] at z; cases z
    refine core (fun b => if b = a then some (.frz { cls := .type "list", data := .seq vs.toArray } (.lst (ns.map V.int))) else none) ⟨fun b => ?_, .inl (.inr ⟨_, if_pos rfl⟩), fun b u z => ?_, fun b z => ?_, fun _ => hk⟩
    · by_cases h : b = a
      · exact .inr ⟨_, _, if_pos h⟩
      · exact .inl (if_neg h)
    · obtain ⟨rfl, rfl⟩ := at_ z
      exact ⟨ha, by rw [List.length_map]; exact hl, vs, _, rv, ha⟩
    · by_cases h : b = a
      · exact h
      · exact absurd (if_neg h) z
end
/-- the walk's goal from the law's promise, the values being shown within -/
theorem walk_ofG {l : PySem.W.OpenLaw} {n k : Nat} {q : Program} {loose : List Str} {XP : (Str → Option Value) → Heap → Prop} {YP : World → Heap → Prop} {d : DefRec} {K : Params → PySem.W.Frag} {sp : World → Sp} {x : Str}
    (hn : l.most = some n) (hn2 : n ≤ sizeLine) (hdf : d.params.defaults = []) (hr : Room k callerA) (hY : ∀ (w : World) (h : Heap), YP w h → (K w.params).In h)
    (F : ∀ (w : World) (mg : Str → Option Value) (fa : Addr) (h : Heap), (K w.params).In h → h.Ns mainGlobals mg → mg d.name = some (.ref fa) → ∃ fd : FuncData, (∀ (s : Shared) (u : Value), BindsTo s fd ⟨[u], []⟩ [(x, u)]) ∧
      ∀ base : Heap, (K w.params).In base → base.Ns mainGlobals mg → FnG l.prog w (K w.params) mg base k fa fd [x] (sp w))
    (hsp : ∀ (w : World) (H : Hp) (a : Addr) (ns : List Int), ns.length ≤ n → Only H → SqL (K w.params) H a (ns.map V.int) → sp w [.ref a] H (fun v _ => v = .bl true) fun _ _ _ => False) :
    PySem.W.WalkO q loose XP YP l.row.toRowW d [] (fun f vs => PySem.call f vs) :=
  Att.attach_call hn hdf fun w s₀ s₁ mg mb fa o pm cd doc a vs ns G Y _ _ _ hmg ho hi hlen hg => by
    obtain ⟨fd, b, hF⟩ := F w mg fa _ (hY w _ Y) G.T.g hmg
    exact law_runG (hY w _ Y) G.T.g G.T.b G.T.builtins G.T.nolimit hg ho hi (Nat.le_trans hlen hn2) hr hF b fun H hO hS => hsp w H a ns hlen hO hS
end My

namespace My
open PySem PySem.Spec PyProof.Rows L2
/-! ### repr of data at any depth -/
mutual
theorem Dp.noDict {K : PySem.W.Frag} {H : Hp} : ∀ {v : V} {d : PyData}, Dp K H v d → d.hasDict = false
  | _, _, .non => rfl
  | _, _, .bl _ => rfl
  | _, _, .int _ => rfl
  | _, _, .str _ => rfl
  | _, _, .lst _ h => My.DpAll.noDict h
  | _, _, .tup _ h => My.DpAll.noDict h
theorem DpAll.noDict {K : PySem.W.Frag} {H : Hp} : ∀ {vs : List V} {ds : List PyData}, DpAll K H vs ds → PyData.hasDictAll ds = false
  | _, _, .nil => rfl
  | _, _, .cons h hs => by
    show (_ || _) = false
    rw [My.Dp.noDict h, My.DpAll.noDict hs]
    rfl
end
section
variable {X : Cx}
def rReprD (K : PySem.W.Frag) : List V → Hp → VK → Prop := fun xs H Q => ∃ (a : Addr) (d : PyData), xs = [.ref a] ∧ Dp K H (.ref a) d ∧ d.showable = true ∧ d.depth ≤ 60 ∧ d.shown.length ≤ sizeLine ∧ Q (.str d.shown) H
theorem call_repr_D (hg : X.A.guards = some []) (hu : X.A.units + 64 < cLine) : CallR X (.builtin "repr") (rReprD X.K) := by
  intro pins s σ H xs us Q I r h
  obtain ⟨a, d, rfl, dp, sh, dd, sz, q⟩ := h
  obtain ⟨u, rfl, r1⟩ := vals1 r
  cases (show u = Value.ref a from r1)
  obtain ⟨as, hr⟩ := Dp.reads I d _ _ dp rfl
  have nd := My.Dp.noDict dp
  exact repr_of_reads' hr sh (fun z => by rw [nd] at z; cases z) hg (by omega) (fun _ _ e => e) (fun h' u tk hk => ⟨.str d.shown, H, I.kept hk, ⟨u, rfl⟩, q⟩) sz
end
theorem seqT {K : PySem.W.Frag} {H H' : Hp} {a : Addr} {xs : List V} (e : Same H H') (h : SqT K H a xs) : SqT K H' a xs := by
  rcases h with h | h
  · refine .inl ?_
    rcases h with h | h
    · exact .inl (e _ _ h)
    · obtain ⟨o, h⟩ := h
      exact .inr ⟨o, e _ _ h⟩
  · exact .inr h
mutual
theorem Dp.same {K : PySem.W.Frag} {H H' : Hp} (e : Same H H') : ∀ {v : V} {d : PyData}, Dp K H v d → Dp K H' v d
  | _, _, .non => .non
  | _, _, .bl b => .bl b
  | _, _, .int i => .int i
  | _, _, .str x => .str x
  | _, _, .lst h hs => .lst (e.seq h) (My.DpAll.same e hs)
  | _, _, .tup h hs => .tup (seqT e h) (My.DpAll.same e hs)
theorem DpAll.same {K : PySem.W.Frag} {H H' : Hp} (e : Same H H') : ∀ {vs : List V} {ds : List PyData}, DpAll K H vs ds → DpAll K H' vs ds
  | _, _, .nil => .nil
  | _, _, .cons h hs => .cons (My.Dp.same e h) (My.DpAll.same e hs)
end
end My

namespace My
open PySem PySem.Spec PyProof.Rows L2
section
variable {X : Cx} {es : List Expr} {t : TA} {pos : Pos}
/-- a list display whose list is told to lie above the table of modules -/
def tLstN (t : TA) : TE := fun σ H Q => t σ H fun xs H1 => xs.length ≤ sizeLine ∧ ∀ p, H1 p = none → sysModules < p → Q (.ref p) (L2.upd H1 p (.lst xs))
theorem pe_lstN (h : PA X es t) : PE X (.List es pos) (tLstN t) := by
  refine ⟨fun pins s σ H Q I hq => wpAny_List_spliced (thn (h.run pos pins s σ H _ I hq) ?_)⟩
  rintro us s1 ⟨xs, H1, I1, r, z, q⟩
  have fr : H1 s1.heap.objs.size = none := I1.hok.fresh (Nat.le_refl _)
  refine ⟨by rw [← r.length]; exact z, .ref s1.heap.objs.size, L2.upd H1 s1.heap.objs.size (.lst xs), ?_, rfl, q _ fr I1.big⟩
  exact I1.laid (t' := s1.toks) (fun b u e => Heap.get?_push_of_some _ e) (Nat.le_refl _) ⟨z, us, 0, r, Heap.get?_push_size _ rfl⟩
/-- list(..) of a list or tuple, likewise -/
theorem call_list_ofN : CallR X (.type "list") (fun xs H Q => ∃ p ys, xs = [.ref p] ∧ (SqL X.K H p ys ∨ SqT X.K H p ys) ∧ ∀ l, H l = none → sysModules < l → Q (.ref l) (L2.upd H l (.lst ys))) := by
  intro pins s σ H xs us Q I r h
  obtain ⟨p, ys, rfl, hq, q⟩ := h
  obtain ⟨u, rfl, rx⟩ := vals1 r
  cases rx
  have big := I.big
  have fr : H s.heap.objs.size = none := I.hok.fresh (Nat.le_refl _)
  have fin : ∀ (its : List Value), Vals ys its → ys.length ≤ sizeLine → ∀ (h' : Heap) (c' : Nat), (∀ b o', s.heap.get? b = some o' → h'.get? b = some o') → h'.get? s.heap.objs.size = some { cls := .type "list", dict := none, data := .seq its.toArray c', slots := #[] } →
      EP X pins σ Q (.ref s.heap.objs.size) { s with heap := h' } := by
    intro its r' hz h' c' kp e
    refine ⟨.ref s.heap.objs.size, L2.upd H s.heap.objs.size (.lst ys), I.laid (t' := s.toks) kp (Nat.le_refl _) ?_, rfl, q _ fr big⟩
    exact (show ObjOk X.prog X.w _ h' _ (.lst ys) from ⟨hz, its, c', r', e⟩)
  rcases hq with hq | hq
  · obtain ⟨its, r', pl, hz⟩ := I.list hq
    have hlen := r'.length
    obtain ⟨o, ho, hc, n, hd⟩ := pl.isList
    exact call_list_seq p (.inl rfl) ho hc hd (fun h' c' kp e => fin its r' hz h' c' kp e) (by rw [List.size_toArray]; omega)
  · obtain ⟨its, r', pl, hz⟩ := I.tuple hq
    have hlen := r'.length
    obtain ⟨o, ho, hc, n, hd⟩ := pl
    exact call_list_seq p (.inr rfl) ho hc hd (fun h' c' kp e => fin its r' hz h' c' kp e) (by rw [List.size_toArray]; omega)
end
end My

namespace My
open PySem PySem.Spec PyProof.Rows L2
/-! ### values at any depth, dicts among them -/
/-- the dicts that occur -/
inductive DctE : List (Key × V) → List (PyData × PyData) → Prop
  | none : DctE [] []
  | one : DctE [(.inl 0, .int 1)] [(.int 0, .int 1)]
mutual
inductive Dq (H : Hp) : V → PyData → Prop
  | non : Dq H .non .none
  | bl (b : Bool) : Dq H (.bl b) (.bool b)
  | int (i : Int) : Dq H (.int i) (.int i)
  | str (x : Str) : Dq H (.str x) (.str x)
  | lst {a : Addr} {xs : List V} {ds : List PyData} : H a = some (.lst xs) → sysModules < a → DqAll H xs ds → Dq H (.ref a) (.list ds)
  | tup {a : Addr} {xs : List V} {ds : List PyData} : H a = some (.tup xs) → DqAll H xs ds → Dq H (.ref a) (.tuple ds)
  | dct {a : Addr} {kvs : List (Key × V)} {es : List (PyData × PyData)} : H a = some (.dK kvs) → DctE kvs es → Dq H (.ref a) (.dict es)
inductive DqAll (H : Hp) : List V → List PyData → Prop
  | nil : DqAll H [] []
  | cons {v : V} {vs : List V} {d : PyData} {ds : List PyData} : Dq H v d → DqAll H vs ds → DqAll H (v :: vs) (d :: ds)
end
mutual
theorem Dq.same {H H' : Hp} (e : Same H H') : ∀ {v : V} {d : PyData}, Dq H v d → Dq H' v d
  | _, _, .non => .non
  | _, _, .bl b => .bl b
  | _, _, .int i => .int i
  | _, _, .str x => .str x
  | _, _, .lst h n hs => .lst (e _ _ h) n (DqAll.same e hs)
  | _, _, .tup h hs => .tup (e _ _ h) (DqAll.same e hs)
  | _, _, .dct h x => .dct (e _ _ h) x
theorem DqAll.same {H H' : Hp} (e : Same H H') : ∀ {vs : List V} {ds : List PyData}, DqAll H vs ds → DqAll H' vs ds
  | _, _, .nil => .nil
  | _, _, .cons h hs => .cons (Dq.same e h) (DqAll.same e hs)
end
theorem DqAll.length {H : Hp} : ∀ {vs : List V} {ds : List PyData}, DqAll H vs ds → vs.length = ds.length
  | _, _, .nil => rfl
  | _, _, .cons _ h => congrArg (· + 1) h.length
theorem DqAll.get {H : Hp} : ∀ {vs : List V} {ds : List PyData} {i : Nat} {d : PyData}, DqAll H vs ds → ds[i]? = some d → ∃ v, vs[i]? = some v ∧ Dq H v d
  | _, _, 0, _, .cons h _, e => by
    cases e
    exact ⟨_, rfl, h⟩
  | _, _, i + 1, _, .cons _ hs, e => hs.get (i := i) e
/-- the kind's name -/
def tyD : PyData → String
  | .none => "NoneType"
  | .bool _ => "bool"
  | .int _ => "int"
  | .str _ => "str"
  | .list _ => "list"
  | .tuple _ => "tuple"
  | .dict _ => "dict"
theorem Dq.ty {K : PySem.W.Frag} {H : Hp} {v : V} {d : PyData} (h : Dq H v d) : TyX K H v (.type (tyD d)) := by
  cases h with
  | non => exact .base .non
  | bl b => exact .base (.bl b)
  | int i => exact .base (.int i)
  | str x => exact .base (.str x)
  | lst e _ _ => exact .base (.lst e)
  | tup e _ => exact .base (.tup e)
  | dct e _ => exact .base (.dK e)
theorem is_str {K : PySem.W.Frag} (d : PyData) : PySem.W.kitOne K (.type (tyD d)) (.type "str") = some (decide (tyD d = "str")) := by
  cases d with
  | none  => exact (kit_ty (r := false) (by decide +kernel) : PySem.W.kitOne K (.type "NoneType") (.type "str") = some false)
  | bool _ => exact (kit_ty (r := false) (by decide +kernel) : PySem.W.kitOne K (.type "bool") (.type "str") = some false)
  | int _ => exact (kit_ty (r := false) (by decide +kernel) : PySem.W.kitOne K (.type "int") (.type "str") = some false)
  | str _ => exact (kit_ty (r := true) (by decide +kernel) : PySem.W.kitOne K (.type "str") (.type "str") = some true)
  | list _ => exact (kit_ty (r := false) (by decide +kernel) : PySem.W.kitOne K (.type "list") (.type "str") = some false)
  | tuple _ => exact (kit_ty (r := false) (by decide +kernel) : PySem.W.kitOne K (.type "tuple") (.type "str") = some false)
  | dict _ => exact (kit_ty (r := false) (by decide +kernel) : PySem.W.kitOne K (.type "dict") (.type "str") = some false)
theorem is_tup {K : PySem.W.Frag} (d : PyData) : PySem.W.kitOne K (.type (tyD d)) (.type "tuple") = some (decide (tyD d = "tuple")) := by
  cases d with
  | none  => exact (kit_ty (r := false) (by decide +kernel) : PySem.W.kitOne K (.type "NoneType") (.type "tuple") = some false)
  | bool _ => exact (kit_ty (r := false) (by decide +kernel) : PySem.W.kitOne K (.type "bool") (.type "tuple") = some false)
  | int _ => exact (kit_ty (r := false) (by decide +kernel) : PySem.W.kitOne K (.type "int") (.type "tuple") = some false)
  | str _ => exact (kit_ty (r := false) (by decide +kernel) : PySem.W.kitOne K (.type "str") (.type "tuple") = some false)
  | list _ => exact (kit_ty (r := false) (by decide +kernel) : PySem.W.kitOne K (.type "list") (.type "tuple") = some false)
  | tuple _ => exact (kit_ty (r := true) (by decide +kernel) : PySem.W.kitOne K (.type "tuple") (.type "tuple") = some true)
  | dict _ => exact (kit_ty (r := false) (by decide +kernel) : PySem.W.kitOne K (.type "dict") (.type "tuple") = some false)
def isAl (c : Nat) : Bool := inS LTR c || inS DIG c
/-! what is asked of trees, as functions -/
def wordD : PyData → Bool
  | .str x => decide (x.length ≤ 12) && (match x.cps.toList with
    | [] => false
    | c :: r => inS LTR c && (c :: r).all isAl)
  | _ => false
def forkD : PyData → Bool
  | .tuple ds => decide (ds.length = 3)
  | _ => false
def emptyD : PyData → Bool
  | .tuple ds => decide (ds.length = 0)
  | _ => false
def nthD (d : PyData) (i : Nat) : PyData := match d with
  | .tuple ds => ds.getD i .none
  | _ => .none
def noneD : PyData → Bool
  | .none => true
  | _ => false
/-- the first wrong side, if any -/
def wrongF : Nat → PyData → Option (List Int)
  | 0, _ => some []
  | n + 1, d => if wordD d = true then none else if forkD d = false then some [] else match wrongF n (nthD d 0) with
    | some p => some (0 :: p)
    | none => match wrongF n (nthD d 1) with
      | some p => some (1 :: p)
      | none => if noneD (nthD d 2) = true ∨ wordD (nthD d 2) = true then none else some [2]
def leavesF : Nat → PyData → List PyData
  | 0, _ => []
  | n + 1, d => if forkD d = true then leavesF n (nthD d 0) ++ leavesF n (nthD d 1) else if emptyD d = true then [] else [d]
def forksF : Nat → PyData → List PyData
  | 0, _ => []
  | n + 1, d => if forkD d = false then [] else [.tuple [nthD d 2, .tuple (leavesF n (nthD d 0)), .tuple (leavesF n (nthD d 1))]] ++ forksF n (nthD d 0) ++ forksF n (nthD d 1)
theorem Dq.fork {H : Hp} {v : V} {d : PyData} (h : Dq H v d) (f : forkD d = true) : ∃ (a : Addr) (x y z : V), v = .ref a ∧ H a = some (.tup [x, y, z]) ∧ Dq H x (nthD d 0) ∧ Dq H y (nthD d 1) ∧ Dq H z (nthD d 2) := by
  cases h with
  | tup e hs =>
    rename_i a xs ds
    have l : ds.length = 3 := of_decide_eq_true f
    match ds, xs, hs, l with
    | [d0, d1, d2], [x, y, z], .cons h0 (.cons h1 (.cons h2 .nil)), _ => exact ⟨a, x, y, z, rfl, e, h0, h1, h2⟩
  | non => cases f
  | bl _ => cases f
  | int _ => cases f
  | str _ => cases f
  | lst _ _ _ => cases f
  | dct _ _ => cases f
end My

namespace My
open PySem PySem.Spec PyProof.Rows L2
section
variable {P : Program} {w : World} {K : PySem.W.Frag} {mg : Str → Option Value} {base : Heap}
theorem max1 {n : Int} (h : 1 ≤ n) : (if n > 1 then n else 1) = n := by
  by_cases e : n > 1
  · rw [if_pos e]
  · rw [if_neg e]; omega
/-- the number of cells that are left -/
def cellsLeft (c : Addr) (H : Hp) : Nat := match H c with
  | some (.lst xs) => xs.length
  | _ => 0
theorem ok_pick (T : Tx K mg) : FnOk P w K mg base CX0 1 T.a_law_pick T.fd_law_pick ["_law_source_here", "_law_many"] spPick := by
  refine T.F_law_pick.ok sc_law_pick (fun vs H Q E h => ?_) (fun cdv A outer st H vs Q E hr h => ?_)
  · obtain ⟨s, c, n, rfl, _⟩ := h
    rfl
  obtain ⟨s, c, n, rfl, hS, h1, h2, k⟩ := h
  have hu := hu_of hr
  refine ⟨_, ((pss_cons (ps_while PassesOwn.never (PW.pt (pw_and (pt_cmpR op_gt (pv 1) pe_int (nomark _)) (pw_and (pt_cmpR op_lt (pe_dget hu (pv 0) pe_str (fun _ _ => rfl)) pe_int (nomark _)) (pw_and1 (pt_cmpR op_gt (pe_callB call_len_seq (by rfl) T.n_len (by decide +kernel) (pa_cons (pe_dget hu (pv 0) pe_str (fun _ _ => rfl)) pa_nil)) pe_int (nomark _))))))
        (pss_one (ps_dput hu (pv 0) pe_str (pe_bm0 PySem.F.plainAttrs_list PySem.F.slot_list_pop PySem.F.type_list_pop mt_pop (pe_dget hu (pv 0) pe_str (fun _ _ => rfl))) rfl)))
      (pss_cons (ps_set (i := 2) sc_law_pick.nd rfl (Or.inl rfl) (pe_dget hu (pv 0) pe_str (fun _ _ => rfl)))
      (pss_cons (ps_if (PW.pt (pw_or (pt_cmpR op_lt (pv 1) pe_int (nomark _)) (pw_or1 (pt_cmpR op_gt (pv 2) pe_int (nomark _)))))
        (pss_cons (ps_dput hu (pv 0) pe_str (pe_op op_fdiv (pv 2) (pe_callB (call_max2 rfl) (by rfl) T.n_max (by decide +kernel) (pa_cons pe_int (pa_cons (pv 1) pa_nil)))) rfl)
      (pss_one (ps_ret (pe_op op_mod (pe_callTy call_int1 (by rfl) T.n_int (by decide +kernel) (pa_cons (pv 2) pa_nil)) (pe_callB (call_max2 rfl) (by rfl) T.n_max (by decide +kernel) (pa_cons pe_int (pa_cons (pv 1) pa_nil)))))))
        pss_nil)
      (pss_cons (ps_dput hu (pv 0) pe_str (pe_op op_add (pe_dget hu (pv 0) pe_str (fun _ _ => rfl)) pe_int) rfl)
      (pss_cons (ps_set (i := 3) sc_law_pick.nd rfl (Or.inl rfl) (pe_op op_mod (pe_callTy call_int1 (by rfl) T.n_int (by decide +kernel) (pa_cons (pe_op op_add (pe_dget hu (pv 0) pe_str (fun _ _ => rfl)) (pe_op op_mul (pe_dget hu (pv 0) pe_str (fun _ _ => rfl)) pe_int)) pa_nil)) pe_int))
      (pss_cons (ps_set (i := 3) sc_law_pick.nd rfl (Or.inl rfl) (pe_op op_mod (pe_callTy call_int1 (by rfl) T.n_int (by decide +kernel) (pa_cons (pe_op op_add (pe_op op_mul (pv 3) (pv 3)) (pe_op op_mul (pe_dget hu (pv 0) pe_str (fun _ _ => rfl)) pe_int)) pa_nil)) pe_int))
      (pss_cons (ps_dput hu (pv 0) pe_str (pv 3) rfl)
      (pss_one (ps_ret (pe_op op_mod (pe_callTy call_int1 (by rfl) T.n_int (by decide +kernel) (pa_cons (pe_op op_fdiv (pv 3) pe_int) pa_nil)) (pv 1)))))))))))), ?_⟩
  -- the while
  refine while_b (fun σ H' => σ = [some (.ref s), some (.int n), none, none] ∧ Go s c H H') (fun _ H' => cellsLeft c H') ⟨rfl, Go.refl hS⟩ ?_
  rintro σ H1 ⟨rfl, g⟩
  obtain ⟨l, m, t, ns, S⟩ := id g.src
  have gs : ∀ (x : Str) (v : V), valV (srcD c l m t) (Sum.inr x) = some v → DGet H1 s (.str x) (some v) := fun x v e => by
    rw [← e]
    exact DGet.k (k := Sum.inr x) S.hs
  by_cases hw : 1 < n ∧ l < 2 ∧ ns ≠ []
  · obtain ⟨w1, w2, w3⟩ := hw
    refine ⟨true, fun Q' q => ?_, ?_⟩
    · refine ⟨_, rfl, _, _, rfl, rfl, _, rfl, iteD (fun _ => ?_) (fun z => absurd w1 z)⟩
      refine ⟨_, rfl, s, _, rfl, gs "left" _ (get_left _ _ _ _), _, _, rfl, rfl, _, rfl, iteD (fun _ => ?_) (fun z => absurd w2 z)⟩
      refine ⟨_, rfl, s, _, rfl, gs "cells" _ (get_cells _ _ _ _), c, _, rfl, .inl (SqL.of S.hc), _, _, rfl, rfl, _, rfl, ?_⟩
      have e : decide ((0 : Int) < (((ns.map V.int).length : Nat) : Int)) = true := by
        rw [List.length_map]
        cases ns with
        | nil => exact absurd rfl w3
        | cons a r => exact decide_eq_true (by rw [List.length_cons]; omega)
      rw [e]
      exact q
    · refine iteT ?_
      have hlast : ∃ (y : Int), (ns.map V.int)[(ns.map V.int).length - 1]? = some (.int y) ∧ 0 ≤ y := by
        have hp : 0 < ns.length := List.length_pos_iff.mpr w3
        refine ⟨ns[ns.length - 1], ?_, S.n0 _ (List.getElem_mem _)⟩
        rw [List.length_map, List.getElem?_map, List.getElem?_eq_getElem (by omega)]
        rfl
      obtain ⟨y, ey, y0⟩ := hlast
      have hsc : s ≠ c := S.ne
      refine ⟨_, rfl, s, _, rfl, gs "cells" _ (get_cells _ _ _ _), .inl ⟨rfl, _, SqL.of S.hc⟩, c, _, _, rfl, rfl, S.hc, ey, ?_⟩
      refine ⟨_, rfl, s, _, rfl, DPut.k (k := Sum.inr "left") (kvs := srcD c l m t) (by rw [upd_ne hsc]; exact S.hs) (by show 4 < sizeLine; decide), ?_⟩
      rw [put_left]
      have S2 : SrcL (upd (upd H1 c (.lst (ns.map V.int).dropLast)) s (.dK (srcD c y m t))) s c y m t ns.dropLast :=
        ⟨upd_same, by rw [upd_ne hsc.symm, upd_same, List.map_dropLast], y0, S.m0, S.m1, S.t0, fun n h => S.n0 n (List.dropLast_subset _ h), by rw [List.length_dropLast]; have := S.len; omega⟩
      refine ⟨⟨rfl, ⟨fun a o h1 h2 e => ?_, _, _, _, _, S2⟩⟩, ?_⟩
      · rw [upd_ne h1, upd_ne h2]
        exact g.keep a o h1 h2 e
      · show cellsLeft c _ < cellsLeft c _
        unfold cellsLeft
        rw [S2.hc, S.hc]
        show (ns.dropLast.map V.int).length < (ns.map V.int).length
        rw [List.length_map, List.length_map, List.length_dropLast]
        have hp : 0 < ns.length := List.length_pos_iff.mpr w3
        omega
  · refine ⟨false, fun Q' q => ?_, iteF ?_⟩
    · refine ⟨_, rfl, _, _, rfl, rfl, _, rfl, iteD (fun w1 => ?_) (fun _ => q)⟩
      refine ⟨_, rfl, s, _, rfl, gs "left" _ (get_left _ _ _ _), _, _, rfl, rfl, _, rfl, iteD (fun w2 => ?_) (fun _ => q)⟩
      refine ⟨_, rfl, s, _, rfl, gs "cells" _ (get_cells _ _ _ _), c, _, rfl, .inl (SqL.of S.hc), _, _, rfl, rfl, _, rfl, ?_⟩
      have e0 : ns = [] := by
        cases e : ns with
        | nil => rfl
        | cons a r => exact absurd ⟨w1, w2, by rw [e]; exact List.cons_ne_nil _ _⟩ hw
      have e : decide ((0 : Int) < (((ns.map V.int).length : Nat) : Int)) = false := by
        rw [e0]
        rfl
      rw [e]
      exact q
    -- behind the while
    refine ⟨_, rfl, s, _, rfl, gs "left" _ (get_left _ _ _ _), ?_⟩
    have put : ∀ (l' m' t' : Int), 0 ≤ l' → 0 ≤ m' → m' < 4294967296 → 0 ≤ t' → ∀ H2, Go s c H H2 → (∀ b, b ≠ s → H2 b = H1 b) → SrcL (upd H2 s (.dK (srcD c l' m' t'))) s c l' m' t' ns ∧ Go s c H (upd H2 s (.dK (srcD c l' m' t'))) := fun l' m' t' a1 a2 a3 a4 H2 g2 e2 => by
      have S3 : SrcL (upd H2 s (.dK (srcD c l' m' t'))) s c l' m' t' ns := ⟨upd_same, by rw [upd_ne S.ne.symm, e2 _ S.ne.symm]; exact S.hc, a1, a2, a3, a4, S.n0, S.len⟩
      refine ⟨S3, fun a o h1 h2 e => ?_, _, _, _, _, S3⟩
      rw [upd_ne h1]
      exact g2.keep a o h1 h2 e
    have sz : (srcD c l m t).length < sizeLine := by show 4 < sizeLine; decide
    -- if many < 2 or left > 1
    refine ⟨_, rfl, _, _, rfl, rfl, _, rfl, iteD (fun c1 => ?ga) (fun c1 => ⟨_, rfl, _, _, rfl, rfl, _, rfl, iteD (fun c2 => ?gb) (fun c2 => ?gc)⟩)⟩
    case gc =>
      -- the mixed number
      have S2 := put l m (t + 1) S.l0 S.m0 S.m1 (by have := S.t0; omega) H1 g (fun _ _ => rfl)
      refine ⟨_, rfl, s, _, rfl, gs "turn" _ (get_turn _ _ _ _), _, _, rfl, rfl, _, rfl, s, _, rfl, DPut.k (k := Sum.inr "turn") S.hs sz, ?_⟩
      rw [put_turn]
      have gs2 : ∀ (x : Str) (v : V), valV (srcD c l m (t + 1)) (Sum.inr x) = some v → DGet (upd H1 s (.dK (srcD c l m (t + 1)))) s (.str x) (some v) := fun x v e => by
        rw [← e]
        exact DGet.k (k := Sum.inr x) upd_same
      refine ⟨_, rfl, s, _, rfl, gs2 "mixed" _ (get_mixed _ _ _ _), _, rfl, s, _, rfl, gs2 "turn" _ (get_turn _ _ _ _), _, _, rfl, rfl, .inr ⟨by decide, by decide⟩, _, _, rfl, rfl, .inl ⟨_, rfl, _, _, rfl, rfl, (by show (0 : Int) < 998244353; decide), ?_⟩⟩
      generalize hm : (m + (t + 1) * 104729) % 998244353 = m1
      have hm0 : 0 ≤ m1 ∧ m1 < 998244353 := by rw [← hm]; omega
      refine ⟨_, rfl, _, rfl, _, _, rfl, rfl, .inl ⟨by omega, by omega⟩, _, rfl, s, _, rfl, gs2 "turn" _ (get_turn _ _ _ _), _, _, rfl, rfl, .inr ⟨by decide, by decide⟩, _, _, rfl, rfl, .inl ⟨_, rfl, _, _, rfl, rfl, (by show (0 : Int) < 2147483647; decide), ?_⟩⟩
      generalize hn : (m1 * m1 + (t + 1) * 17) % 2147483647 = m2
      have hn0 : 0 ≤ m2 ∧ m2 < 2147483647 := by rw [← hn]; omega
      refine ⟨_, rfl, _, rfl, s, _, rfl, DPut.k (k := Sum.inr "mixed") S2.1.hs (by show 4 < sizeLine; decide), ?_⟩
      rw [put_mixed]
      have S3 := put l m2 (t + 1) S.l0 hn0.1 (by omega) (by have := S.t0; omega) _ S2.2 (fun b hb => upd_ne hb)
      refine ⟨_, rfl, _, _, rfl, rfl, ⟨by decide, by decide⟩, .inl ⟨_, rfl, _, rfl, _, _, rfl, rfl, (by omega : (0 : Int) < n), ?_⟩⟩
      subst hn
      subst hm
      exact k _ _ (Int.emod_nonneg _ (by omega)) (Int.emod_lt_of_pos _ (by omega)) S3.2
    all_goals
      have S2 := put (l / n) m t (Int.ediv_nonneg S.l0 (by omega)) S.m0 S.m1 S.t0 H1 g (fun _ _ => rfl)
      refine ⟨_, rfl, _, rfl, _, _, rfl, _, _, rfl, rfl, (by rw [max1 h1]; exact ⟨by omega, by omega⟩), _, rfl, s, _, rfl, DPut.k (k := Sum.inr "left") S.hs sz, ?_⟩
      rw [put_left, max1 h1]
      refine ⟨_, rfl, .inl ⟨_, rfl, _, rfl, _, _, rfl, _, _, rfl, rfl, (by rw [max1 h1]; omega : (0 : Int) < if n > 1 then n else 1), ?_⟩⟩
      rw [max1 h1]
      exact k _ _ (Int.emod_nonneg _ (by omega)) (Int.emod_lt_of_pos _ (by omega)) S2.2
theorem ok_of (T : Tx K mg) : FnOk P w K mg base CX0 2 T.a_law_of T.fd_law_of ["_law_source_here", "_law_some"] (spOf K) := by
  refine T.F_law_of.ok sc_law_of (fun vs H Q E h => ?_) (fun cdv A outer st H vs Q E hr h => ?_)
  · obtain ⟨s, c, a, xs, rfl, _⟩ := h
    rfl
  obtain ⟨s, c, a, xs, rfl, hS, ha, nac, h1, h2, k⟩ := h
  have G_law_pick : FnOk P w K mg base CX0 1 T.a_law_pick T.fd_law_pick ["_law_source_here", "_law_many"] spPick := ok_pick T
  have hr_law_pick : Room 1 _ := hr
  refine ⟨_, ((pss_one (ps_ret (pe_ix (show IxR _ (rIxL K) from ix_list) (pv 1) (pe_call G_law_pick hr_law_pick rfl T.m_law_pick T.F_law_pick.kp T.b_law_pick .nil pass0 (pa_cons (pv 0) (pa_cons (pe_callB call_len_seq (by rfl) T.n_len (by decide +kernel) (pa_cons (pv 1) pa_nil)) pa_nil))) (fun _ _ => rfl))))), ?_⟩
  refine ⟨_, rfl, _, rfl, _, rfl, a, _, rfl, .inl (SqL.of ha), s, c, _, rfl, hS, by omega, by omega, fun i H' i0 i1 g => ?_⟩
  obtain ⟨j, rfl⟩ : ∃ j : Nat, i = (j : Int) := ⟨i.toNat, by omega⟩
  have hj : j < xs.length := by omega
  exact ⟨a, xs, _, xs[j], rfl, rfl, SqL.of (g.lst hS ha nac), atI_nat (List.getElem?_eq_getElem hj), k j _ H' (List.getElem?_eq_getElem hj) g⟩
theorem ok_source (T : Tx K mg) : FnOk P w K mg base CX0 1 T.a_law_source T.fd_law_source ["_law_script"] (spSource K) := by
  refine T.F_law_source.ok sc_law_source (fun vs H Q E h => ?_) (fun cdv A outer st H vs Q E hr h => ?_)
  · obtain ⟨a, ns, rfl, _⟩ := h
    rfl
  obtain ⟨a, ns, rfl, hS, hl, k⟩ := h
  refine ⟨_, ((pss_cons (ps_set (i := 1) sc_law_source.nd rfl (Or.inl rfl) pe_int)
      (pss_cons (ps_for PassesOwn.never rfl (pi_list (pv 0)) (pg_name (i := 2) sc_law_source.nd rfl (Or.inl rfl))
        (pss_one (ps_set (i := 1) sc_law_source.nd rfl (Or.inl rfl) (pe_op op_mod (pe_callTy call_int1 (by rfl) T.n_int (by decide +kernel) (pa_cons (pe_op op_add (pe_op op_add (pe_op op_mul (pv 1) pe_int) (pe_op op_mul (pv 2) pe_int)) pe_int) pa_nil)) pe_int))))
      (pss_one (ps_ret (pe_disp (pps_cons pe_str (pe_revL (pe_lc (own := [("_law_cell", 2)]) (by rfl) sc_law_source.nd (pi_list (pv 0)) (blkOk_by (own := [("_law_cell", 2)]) (N := ["_law_script", "_law_mixed_here", "_law_cell"]) (sc := defScope s_law_source) (by decide +kernel)) (fun _ _ _ _ _ => pg_name (i := 2) sc_law_source.nd rfl (Or.inl rfl)) (fun _ _ _ _ _ => pts_nil) (fun _ _ _ _ _ => (pe_callB call_abs (by rfl) T.n_abs (by decide +kernel) (pa_cons (pv 2) pa_nil))))) (pps_cons pe_str pe_int (pps_cons pe_str (pv 1) (pps_cons pe_str pe_int pps_nil)))) (by rfl) (by rfl) (fun z => by cases z) (by decide))))))), ?_⟩
  refine ⟨_, rfl, a, rfl, ⟨_, hS⟩, for_list (K := K) (a := a) (xs := ns.map V.int) (fun i σ H' => ∃ (m : Int) (v : Option V), σ = [some (.ref a), some (.int m), v] ∧ H' = H ∧ 0 ≤ m ∧ m < 2147483629) ⟨11, none, rfl, rfl, by decide, by decide⟩ (fun i σ H' _ ⟨_, _, _, e, _⟩ => e ▸ hS) ?_ ?_⟩
  · rintro i y σ H' hi ⟨m, v, rfl, rfl, m0, m1⟩
    obtain ⟨u, rfl⟩ : ∃ u, y = V.int u := by
      rw [List.getElem?_map] at hi
      cases e : ns[i]? with
      | none => rw [e] at hi; cases hi
      | some u => rw [e] at hi; exact ⟨u, (Option.some.inj hi).symm⟩
    refine ⟨_, rfl, _, _, rfl, rfl, .inr ⟨by decide, by decide⟩, _, rfl, _, _, rfl, rfl, .inr ⟨by decide, by decide⟩, _, _, rfl, rfl, _, _, rfl, rfl, .inl ⟨_, rfl, _, _, rfl, rfl, (by show (0 : Int) < 2147483629; decide), ?_⟩⟩
    exact ⟨_, _, rfl, rfl, Int.emod_nonneg _ (by decide), Int.emod_lt_of_pos _ (by decide)⟩
  · rintro σ H' ⟨m, v, rfl, rfl, m0, m1⟩
    intro p hp
    have s0 := same_new hp (.dK [])
    refine ⟨_, rfl, a, rfl, ⟨_, s0.seq hS⟩, fun D hD => ?_⟩
    have npD : p ≠ D := ne_of_none upd_same hD
    refine lc_list (K := K) (a := a) (xs := ns.map V.int) (fun i H2 => Same (upd H' p (.dK [])) H2 ∧ H2 D = some (.lst (((ns.take i).map fun n => if n < 0 then -n else n).map V.int))) ⟨same_new hD _, upd_same⟩ (fun i H2 _ z => z.1.seq (s0.seq hS)) ?_ ?_
    · rintro i y H2 hi ⟨s1, e1⟩
      have hil : i < ns.length := by
        have q := (List.getElem?_eq_some_iff.mp hi).1
        rw [List.length_map] at q
        exact q
      have ey : y = V.int ns[i] := by
        rw [List.getElem?_map, List.getElem?_eq_getElem hil] at hi
        exact (Option.some.inj hi).symm
      subst ey
      refine ⟨rfl, ?_⟩
      refine ⟨_, rfl, _, rfl, _, e1, ?_, ?_, ?_⟩
      · rw [List.length_map, List.length_map, List.length_take]
        exact small1000 (by omega)
      · intro b o e
        rw [upd_ne (ne_of_none e hD)]
        exact s1 b o e
      · rw [upd_same, List.take_succ_eq_append_getElem hil, List.map_append, List.map_append]
        rfl
    · rintro H2 ⟨s1, e1⟩
      refine ⟨D, _, rfl, SqL.of e1, fun c hc => ?_⟩
      have ncp : p ≠ c := ne_of_none (s1 _ _ upd_same) hc
      refine ⟨_, rfl, ?_⟩
      have ep : upd H2 c (.lst ((((ns.take (ns.map V.int).length).map fun n => if n < 0 then -n else n).map V.int).reverse)) p = some (.dK []) := by
        rw [upd_ne ncp]
        exact s1 _ _ upd_same
      refine ⟨ep, srcD c 1 m 0, rfl, (by show 4 ≤ 15; decide), ?_⟩
      rw [srcD_made]
      refine k p c _ ?_ hp ?_ ?_
      · intro b o e
        have nbp : b ≠ p := ne_of_none e hp
        have e2 := s1 b o (by rw [upd_ne nbp]; exact e)
        rw [upd_ne nbp, upd_ne (ne_of_none e2 hc)]
        exact e2
      · exact s0.free (s1.free hc)
      · refine ⟨1, m, 0, ((ns.take (ns.map V.int).length).map fun n => if n < 0 then -n else n).reverse, upd_same, ?_, by decide, m0, by omega, by decide, ?_, ?_⟩
        · rw [upd_ne ncp.symm, upd_same, List.map_reverse]
        · intro n hn
          rw [List.mem_reverse, List.mem_map] at hn
          obtain ⟨q, _, rfl⟩ := hn
          split <;> omega
        · rw [List.length_reverse, List.length_map, List.length_take]
          omega
end
end My

namespace My
open PySem PySem.Spec PyProof.Rows L2
/-! ### enumerate of a list or a tuple -/
set_option maxHeartbeats 1000000 in
theorem enum_new1 {v : Value} {o : Obj} {Hh : Heap → Prop} (B : Begins v o Hh) :
    Meets (Builtin.«enumerate.__new__» ⟨[.type "enumerate", v], []⟩) fun _ R s => Hh s.heap ∧ R (.ok (.ret (.ref (s.heap.push o).objs.size)))
      { s with heap := (s.heap.push o).push { cls := .type "enumerate", data := .fields #[.none, .bool false, .ref s.heap.objs.size, rawInt 0, .none, .none] } } := by
  refine .of_wp fun prog w A R s z => ?_
  obtain ⟨hp, g, d, tk, os⟩ := s
  obtain ⟨z1, z2⟩ := z
  have sb := sub_enumerate
  have it1 : ∀ {A' : Around} {E : Value → Shared → Prop} {Q : Value → Shared → Prop}, Q (.ref hp.objs.size) ⟨hp.push o, g, d, tk, os⟩ → wpAny (model prog w) A' (pyIter v) Q E ⟨hp, g, d, tk, os⟩ := fun q => B.iter prog w _ _ ⟨hp, g, d, tk, os⟩ _ z1 q
  wp_walk using it1
  refine wpAny_stack_any fun _ => (wpAny_pure ?_)
  split
  · rename_i cc _ _ _ _ _
    cases (cc == Value.type "enumerate") <;> (wp_walk using it1; exact ⟨_, rfl, z2⟩)
  · wp_walk using it1; exact ⟨_, rfl, z2⟩
theorem enum_begins1 {prog : Program} {w : World} {A : Around} {E : Value → Shared → Prop} {s : Shared} {v : Value} {o : Obj} {Hh : Heap → Prop} {Q : Value → Shared → Prop} (B : Begins v o Hh) (z : Hh s.heap)
    (q : ∀ g, IsEnum g (s.heap.objs.size + 1) s.heap.objs.size 0 .none → g.get? s.heap.objs.size = some o → (∀ b u, s.heap.get? b = some u → g.get? b = some u) → Q (.ref (s.heap.objs.size + 1)) { s with heap := g }) :
    wpAny (model prog w) A (call (.type "enumerate") [v]) Q E s := by
  refine callType_new F.called_enumerate (by decide) (F.typeCall_enumerate_1 _) (F.newCall_enumerate_1 _) (fun ob => F.args_object_init_2 ob _) F.entry_enumerate_new (enum_new1 B) ⟨z, ?_⟩
  have sz : (s.heap.push o).objs.size = s.heap.objs.size + 1 := Heap.size_push ..
  have en : IsEnum ((s.heap.push o).push { cls := .type "enumerate", data := .fields #[.none, .bool false, .ref s.heap.objs.size, rawInt 0, .none, .none] }) (s.heap.objs.size + 1) s.heap.objs.size 0 .none := by
    have e := Heap.get?_push_size (s.heap.push o) (o := { cls := .type "enumerate", data := .fields #[.none, .bool false, .ref s.heap.objs.size, rawInt 0, .none, .none] }) rfl
    rw [sz] at e
    exact e
  show _ ∧ _
  rw [sz]
  exact ⟨⟨_, en, rfl⟩, q _ en (Heap.get?_push_of_some _ (Heap.get?_push_size _ B.free)) fun b u e => Heap.get?_push_of_some _ (Heap.get?_push_of_some _ e)⟩
/-- the sequence at a as it stands at each turn, each item in a new pair -/
def IteM (k : Bool) (K : PySem.W.Frag) (a : Addr) : It :=
  ⟨fun n M => ∃ (p : List V) (u : V), SqK k K M a p ∧ p[n]? = some u, fun n M y M' => ∃ (C : Addr) (u : V), y = .ref C ∧ M C = none ∧ M' = upd M C (.tup [.int (n : Nat), u]) ∧ ∀ p, SqK k K M a p → p[n]? = some u,
    fun n M => ∃ p : List V, SqK k K M a p ∧ n = p.length⟩
def ESt (k : Bool) (e i a : Addr) (n : Nat) (h : Heap) : Prop := (∃ old, IsEnum h e i ((n : Nat) : Int) old) ∧ ItK k h i a n ∧ e ≠ i ∧ e ≠ a ∧ a ≠ i
theorem in2 {e i c : Addr} (h : c ∈ [e, i]) : c = e ∨ c = i := by simpa using h
theorem turn_enumM {P : Program} {w : World} {K : PySem.W.Frag} {elts : List Expr} {kk : Nat} {tpos : Pos} {k : Bool} {a e i : Addr} :
    Turn P w K (.Tuple elts kk tpos) (IteM k K a) [e, i] e (ESt k e i a) where
  mem := by simp
  obj := by
    intro n h S c hc
    obtain ⟨⟨old, S1⟩, S2, _⟩ := S
    rcases in2 hc with rfl | rfl
    · exact ⟨_, S1, fun v q => nomatch q⟩
    · exact S2.ob
  keep := by
    intro n h h' S q
    obtain ⟨⟨old, S1⟩, S2, S3⟩ := S
    exact ⟨⟨old, q _ (by simp) _ S1⟩, S2.to (q _ (by simp)), S3⟩
  item := by
    intro X hP hw hK hc n pins s σ M E I fr S go
    subst hP hw hK
    obtain ⟨⟨old, S1⟩, S2, n1, n2, n3⟩ := S
    obtain ⟨p, u, Lp, eu⟩ := go
    obtain ⟨is, rp, hp, _⟩ := readK I Lp
    have lp : n < is.toArray.size := by
      have := (List.getElem?_eq_some_iff.mp eu).1
      have := rp.length
      rw [List.size_toArray]; omega
    have el : e < s.heap.objs.size := Heap.lt_size S1
    have hd1 : X.A.in1.handled = none := I.ok.hd hc
    refine wpAny_pyNext_enum_itemD (drawK hd1 k i a n3 is.toArray) S1 ⟨S2, hp⟩ lp n1 (by simp; exact ⟨n1, n2⟩) ?_
    intro x g tk Pu ho s4 hT sz kp
    obtain ⟨w1, hw1, r1⟩ := rp.get eu
    obtain rfl : x = w1 := by
      have h1 : is[n]? = some x := by simpa using Pu
      rw [hw1] at h1; exact (Option.some.inj h1).symm
    refine ⟨_, rfl, wpAny_letOwnedTupleGo_enum (s := { s with heap := g, toks := tk + 1 }) ho fun g' z3 sb => ?_⟩
    have nz : s.heap.objs.size ≠ e := Nat.ne_of_gt el
    have hT' : g'.get? s.heap.objs.size = some { cls := .type "tuple", data := .seq #[.int n tk, x] } := (sb.2 _ nz).trans hT
    have ok : ObjOk X.prog X.w (upd M s.heap.objs.size (.tup [.int (n : Nat), u])) g' s.heap.objs.size (.tup [.int (n : Nat), u]) :=
      ⟨(by show 2 ≤ sizeLine; decide), [.int n tk, x], .cons ⟨_, rfl⟩ (.cons r1 .nil), _, hT', rfl, _, rfl⟩
    have J : Inv X pins σ (upd M s.heap.objs.size (.tup [.int (n : Nat), u])) { s with heap := g', toks := tk + 1 } := by
      refine I.turnedNew (t' := tk + 1) (ch := [e, i]) (fun c o hb q => ?_) fr (Nat.le_refl _) ok
      have nb : c ≠ e ∧ c ≠ i := by simpa using hb
      exact (sb.2 c nb.1).trans (kp c o nb.1 nb.2 q)
    refine ⟨.ref s.heap.objs.size, _, J, rfl, ⟨_, u, rfl, I.hok.fresh (Nat.le_refl _), rfl, fun p' hp' => ?_⟩, ⟨⟨x, ?_⟩, s4.1.to fun o q => (sb.2 _ n1.symm).trans q, n1, n2, n3⟩, fun c hcm => ?_⟩
    · rw [injK I hp' Lp]; exact eu
    · have e1 : ((n + 1 : Nat) : Int) = (n : Int) + 1 := by omega
      rw [e1]; exact z3
    · have lt : c < s.heap.objs.size := by
        rcases in2 hcm with rfl | rfl
        · exact el
        · obtain ⟨o, q, _⟩ := S2.ob; exact Heap.lt_size q
      rw [upd_ne (Nat.ne_of_lt lt)]
      exact (fr c hcm).1
  done := by
    intro X hP hw hK hc n pins s σ M E I fr S stop
    subst hP hw hK
    obtain ⟨⟨old, S1⟩, S2, n1, n2, n3⟩ := S
    obtain ⟨p, Lp, le⟩ := stop
    obtain ⟨is, rp, hp, _⟩ := readK I Lp
    have ep := rp.length
    have hd1 : X.A.in1.handled = none := I.ok.hd hc
    have sz : is.toArray.size = n := by rw [List.size_toArray]; omega
    refine wpAny_pyNext_enum_endD (drawK hd1 k i a n3 is.toArray) S1 (by rw [sz]; exact ⟨S2, hp⟩) fun g eb => ?_
    refine ⟨rfl, I.turnedL (t' := s.toks) (ch := [e, i]) (fun c o hb q => eb c o (fun z => hb (by simp [z])) q) fr⟩
  self := fun A n s Q E S h => by
    obtain ⟨⟨old, S1⟩, _⟩ := S
    exact wpAny_pyIter_enum S1 h
def iEnumM (K : PySem.W.Frag) (ta : TA) : TI := fun σ M R => ta σ M fun vs M1 => ∃ (k : Bool) (a : Addr) (p : List V), vs = [.ref a] ∧ SqK k K M1 a p ∧ R (IteM k K a) M1
theorem pi_enumM {X : Cx} {e : Expr} {ta : TA} {p pos tpos : Pos} {elts : List Expr} {kk : Nat} (hg : Gl X "enumerate") (hm : X.mg "enumerate" = none) (ha : PA X [e] ta) (hs : starEach [e] X.env = [(false, eval e X.env)] := by rfl) :
    PI X (.Tuple elts kk tpos) (.Call (.Name "enumerate" p) [e] [] pos) (iEnumM X.K ta) := by
  refine ⟨fun pins s σ M R I h => Call_ (ld_blt I hg hm boot_enumerate (PyProof.Rows.callWith_type1 (thn (ha.run pos pins s σ M _ I h) fun us s1 hh => ?_) hs rfl))⟩
  obtain ⟨vs, M1, I1, r1, k, a, xs, ev, Lx, q⟩ := hh
  subst ev
  obtain ⟨u1, rfl, e1⟩ := vals1 r1
  cases (show u1 = Value.ref a from e1)
  obtain ⟨is, rp, hp, la⟩ := readK I1 Lx
  obtain ⟨o1, B1, t1⟩ := beginK k a is.toArray
  refine enum_begins1 B1 hp fun g z1 g1 kp => wpAny_pyIter_enum z1 ?_
  have J : Inv X pins σ M1 { s1 with heap := g } := I1.kept (t' := s1.toks) kp
  refine ⟨s1.heap.objs.size + 1, [s1.heap.objs.size + 1, s1.heap.objs.size], _, _, M1, rfl, J, turn_enumM (e := s1.heap.objs.size + 1) (i := s1.heap.objs.size), ⟨⟨.none, z1⟩, t1 _ _ g1, Nat.succ_ne_self _, Nat.ne_of_gt (Nat.lt_succ_of_lt la), Nat.ne_of_lt la⟩, fun c hcm => ?_, q⟩
  have le : s1.heap.objs.size ≤ c := by
    rcases in2 hcm with rfl | rfl <;> first | exact Nat.le_add_right _ _ | exact Nat.le_refl _
  exact I1.fpOk le (I1.hok.fresh le)
theorem walk_enumM {k : Bool} {K : PySem.W.Frag} {a : Addr} {xs : List V} : Walk (IteM k K a) xs.length (fun H => SqK k K H a xs) (YPair (fun i => some (.int (i : Nat))) (fun i => xs[i]?)) := by
  refine ⟨fun i _ hi q => ⟨xs, xs[i], q, by simp [hi]⟩, fun _ q => ⟨xs, q, rfl⟩, fun i H v H' _ q y => ?_⟩
  obtain ⟨T, x, h1, h2, h3, h4⟩ := y
  exact ⟨T, .int (i : Nat), x, h1, h2, h3, rfl, h4 xs q⟩
end My

namespace My
open PySem PySem.Spec PyProof.Rows L2
/-! ### list(zip(xs, ys)) of two lists -/
theorem zip_no_len : typeLookup (.type "zip") "__len__" = pure none := by rw [typeLookup_type, builtinLookup_eq_fast]; kernel_rfl
theorem zip_no_hint : typeLookup (.type "zip") "__length_hint__" = pure none := by rw [typeLookup_type, builtinLookup_eq_fast]; kernel_rfl
/-- the zip object at z as it stands at the turn n, a list being built at S -/
structure ZS (z TI TO i j a b S : Addr) (xs ys : Array Value) (n : Nat) (h : Heap) : Prop where
  ti : IsPair h TI (.ref i) (.ref j)
  i1 : h.IsListIter i a n
  i2 : h.IsListIter j b n
  l1 : h.IsList a xs
  l2 : h.IsList b ys
  st : (IsZip h z TI TO .none ∧ ∃ u v, IsPair h TO u v) ∨ ∃ (C : Addr) (f : Bool) (oC : Obj), IsZipHeld h z TI TO C f ∧ h.get? C = some oC ∧ C ≠ z ∧ C ≠ i ∧ C ≠ j ∧ C ≠ S
structure OffS (z TI TO i j a b S : Addr) : Prop where
  z : z ≠ S
  TI : TI ≠ S
  TO : TO ≠ S
  i : i ≠ S
  j : j ≠ S
  a : a ≠ S
  b : b ≠ S
theorem ZS.keep {z TI TO i j a b S : Addr} {xs ys : Array Value} {n : Nat} {h h' : Heap} (x : ZS z TI TO i j a b S xs ys n h) (o : OffS z TI TO i j a b S) (k : ∀ c u, c ≠ S → h.get? c = some u → h'.get? c = some u) : ZS z TI TO i j a b S xs ys n h' where
  ti := k _ _ o.TI x.ti
  i1 := x.i1.at fun u e => k _ u o.i e
  i2 := x.i2.at fun u e => k _ u o.j e
  l1 := x.l1.at fun u e => k _ u o.a e
  l2 := x.l2.at fun u e => k _ u o.b e
  st := by
    rcases x.st with ⟨q, u, v, q2⟩ | ⟨C, f, oC, q, q2, q3⟩
    · exact .inl ⟨k _ _ o.z q, u, v, k _ _ o.TO q2⟩
    · exact .inr ⟨C, f, oC, k _ _ o.z q, k _ _ q3.2.2.2 q2, q3⟩
section
variable {prog : Program} {w : World} {A : Around} {E : Value → Shared → Prop} {s : Shared} {z TI TO i j a b S : Addr} {xs ys : Array Value} {n : Nat}
theorem zs_item {Q : Option Value → Shared → Prop} (D : ZipApart z TI TO i j a b) (x : ZS z TI TO i j a b S xs ys n s.heap) (hS : S < s.heap.objs.size) {u v : Value} (eu : xs[n]? = some u) (ev : ys[n]? = some v)
    (q : ∀ g, ZS z TI TO i j a b S xs ys (n + 1) g → IsPair g s.heap.objs.size u v → g.objs.size = s.heap.objs.size + 1 → (∀ c o, c ≠ z → c ≠ TO → c ≠ i → c ≠ j → s.heap.get? c = some o → g.get? c = some o) → Q (some (.ref s.heap.objs.size)) { s with heap := g }) :
    wpAny (model prog w) A (pyNext (.ref z)) Q E s := by
  have lt : ∀ {c o}, s.heap.get? c = some o → s.heap.objs.size ≠ c := fun e => Nat.ne_of_gt (Heap.lt_size e)
  have n1 : s.heap.objs.size ≠ i := let ⟨_, e, _⟩ := x.i1; lt e
  have n2 : s.heap.objs.size ≠ j := let ⟨_, e, _⟩ := x.i2; lt e
  rcases x.st with ⟨e1, u0, v0, e2⟩ | ⟨C, f, oC, e1, e2, r1, r2, r3, r4⟩
  · refine wpAny_pyNext_zip_item D e1 x.ti e2 x.i1 x.i2 x.l1 x.l2 eu ev fun g a1 _ a3 a4 a5 a6 kp => ?_
    exact q g ⟨kp _ _ D.TIz D.TITO D.TIi1 D.TIi2 x.ti, a3, a4, x.l1.at fun o e => kp _ o D.l1z D.l1TO D.l1i1 D.l1i2 e, x.l2.at fun o e => kp _ o D.l2z D.l2TO D.l2i1 D.l2i2 e, .inr ⟨_, false, _, a1, a5, lt e1, n1, n2, Nat.ne_of_gt hS⟩⟩ a5 a6 kp
  · refine wpAny_pyNext_zip_item_held D e1 e2 x.ti x.i1 x.i2 x.l1 x.l2 eu ev fun g a1 a3 a4 a5 a6 kp => ?_
    exact q g ⟨kp _ _ D.TIz D.TIi1 D.TIi2 x.ti, a3, a4, x.l1.at fun o e => kp _ o D.l1z D.l1i1 D.l1i2 e, x.l2.at fun o e => kp _ o D.l2z D.l2i1 D.l2i2 e, .inr ⟨C, true, oC, a1, kp _ _ r1 r2 r3 e2, r1, r2, r3, r4⟩⟩ a5 a6 fun c o c1 _ c3 c4 e => kp c o c1 c3 c4 e
theorem zs_done {Q : Option Value → Shared → Prop} (hh : A.handled = none) (D : ZipApart z TI TO i j a b) (x : ZS z TI TO i j a b S xs ys n s.heap) (en : xs[n]? = none)
    (q : ∀ g, (∀ c o, c ≠ z → c ≠ TO → c ≠ i → c ≠ j → s.heap.get? c = some o → g.get? c = some o) → Q none { s with heap := g }) : wpAny (model prog w) A (pyNext (.ref z)) Q E s := by
  rcases x.st with ⟨e1, u0, v0, e2⟩ | ⟨C, f, oC, e1, e2, _⟩
  · exact wpAny_pyNext_zip_end hh D e1 x.ti e2 x.i1 x.i2 x.l1 x.l2 (.inl en) fun g kp => q g kp
  · exact wpAny_pyNext_zip_end_held hh D e1 e2 x.ti x.i1 x.i2 x.l1 x.l2 (.inl en) fun g kp => q g fun c o c1 _ c3 c4 e => kp c o c1 c3 c4 e
/-- the new pairs, in order, above lo -/
structure ZG (xs ys : Array Value) (lo : Addr) (h : Heap) (as : List Addr) : Prop where
  rise : as.Pairwise (· < ·)
  above : ∀ c ∈ as, lo ≤ c
  pairs : ∀ (n : Nat) (c : Addr), as[n]? = some c → ∃ u v, xs[n]? = some u ∧ ys[n]? = some v ∧ IsPair h c u v
theorem ZG.there {lo : Addr} {h : Heap} {as : List Addr} (g : ZG xs ys lo h as) {c : Addr} (hc : c ∈ as) : c < h.objs.size := by
  obtain ⟨n, hn⟩ := List.mem_iff_getElem?.mp hc
  obtain ⟨_, _, _, _, e⟩ := g.pairs n c hn
  exact Heap.lt_size e
abbrev lstO (acc : Array Value) (c : Nat) : Obj := { cls := .type "list", dict := none, data := .seq acc c, slots := #[] }
theorem zl_loop {R : Result → Shared → Prop} {lo : Addr} {h₁ : Heap} {res : Value} (hh : A.handled = none) (D : ZipApart z TI TO i j a b) (O : OffS z TI TO i j a b S) (low : S < lo ∧ z < lo ∧ TO < lo ∧ i < lo ∧ j < lo) (hn : xs.size ≤ sizeLine) (ez : ys.size = xs.size)
    (hR : ∀ g tk acc c as, (∀ b o, b ≠ S → b ≠ z → b ≠ TO → b ≠ i → b ≠ j → h₁.get? b = some o → g.get? b = some o) → g.get? S = some (lstO acc c) → as.length = xs.size → ZG xs ys lo g as → acc.toList = as.map Value.ref → R (.ok (.ret res)) { s with heap := g, toks := tk }) :
    ∀ (k n : Nat) (h : Heap) (tk c : Nat) (acc : Array Value) (as : List Addr), xs.size - n = k → n ≤ xs.size → ZS z TI TO i j a b S xs ys n h → (∀ b o, b ≠ S → b ≠ z → b ≠ TO → b ≠ i → b ≠ j → h₁.get? b = some o → h.get? b = some o) →
      h.get? S = some (lstO acc c) → acc.toList = as.map Value.ref → as.length = n → ZG xs ys lo h as → lo ≤ h.objs.size →
      codeAny (model prog w) A (.builtin "list.extend.loop" ⟨[.ref S, .ref z, res], []⟩) R { s with heap := h, toks := tk } := by
  obtain ⟨l1, l2, l3, l4, l5⟩ := low
  have far : ∀ {as : List Addr} {h : Heap}, ZG xs ys lo h as → ∀ c ∈ as, c ≠ S ∧ c ≠ z ∧ c ≠ TO ∧ c ≠ i ∧ c ≠ j := fun g c hc => by
    have := g.above c hc
    exact ⟨Nat.ne_of_gt (Nat.lt_of_lt_of_le l1 this), Nat.ne_of_gt (Nat.lt_of_lt_of_le l2 this), Nat.ne_of_gt (Nat.lt_of_lt_of_le l3 this), Nat.ne_of_gt (Nat.lt_of_lt_of_le l4 this), Nat.ne_of_gt (Nat.lt_of_lt_of_le l5 this)⟩
  intro k
  induction k with
  | zero =>
    intro n h tk c acc as hk hi st kp hS ha hl G hlo
    have en : n = xs.size := by omega
    refine codeAny_builtin PySem.F.entry_extend_loop ?_
    rw [Around.under_plainId PySem.F.plain_extend_loop _]
    show wpAny _ A.in1 (pyNext (.ref z) >>= _) _ _ _
    refine wpAny_bind (zs_done (s := { s with heap := h, toks := tk }) (A := A.in1) hh D st (Array.getElem?_eq_none (by omega)) fun g he => wpAny_pure ?_)
    refine hR g tk acc c as (fun b o b1 b2 b3 b4 b5 e => he b o b2 b3 b4 b5 (kp b o b1 b2 b3 b4 b5 e)) (he S _ O.z.symm O.TO.symm O.i.symm O.j.symm hS) (by omega) ⟨G.rise, G.above, fun m b hb => ?_⟩ ha
    obtain ⟨u, v, eu, ev, eb⟩ := G.pairs m b hb
    have ⟨_, f2, f3, f4, f5⟩ := far G b (List.mem_of_getElem? hb)
    exact ⟨u, v, eu, ev, he b _ f2 f3 f4 f5 eb⟩
  | succ k ih =>
    intro n h tk c acc as hk hi st kp hS ha hl G hlo
    have hlt : n < xs.size := by omega
    have hsz : acc.size = n := by rw [← Array.length_toList, ha, List.length_map, hl]
    have eu : xs[n]? = some xs[n] := Array.getElem?_eq_getElem hlt
    have ev : ys[n]? = some (ys[n]'(by omega)) := Array.getElem?_eq_getElem (by omega)
    refine codeAny_builtin PySem.F.entry_extend_loop ?_
    rw [Around.under_plainId PySem.F.plain_extend_loop _]
    show wpAny _ A.in1 (pyNext (.ref z) >>= _) _ _ _
    refine wpAny_bind (zs_item (s := { s with heap := h, toks := tk }) D st (Heap.lt_size hS) eu ev fun g st' eT sz he => ?_)
    dsimp only at eT sz he ⊢
    have hS' := he S _ O.z.symm O.TO.symm O.i.symm O.j.symm hS
    have up : ∀ b o, b ≠ S → g.get? b = some o → (g.update S (Obj.mapSeq (·.push (Value.ref h.objs.size)))).get? b = some o := fun b o nb e => (Heap.get?_update_other _ _ (Ne.symm nb)).trans e
    have lS : S < h.objs.size := Heap.lt_size hS
    have sz2 : (g.update S (Obj.mapSeq (·.push (Value.ref h.objs.size)))).objs.size = h.objs.size + 1 := by rw [Heap.size_update]; exact sz
    show wpAny _ A.in1 (updateSeq S (·.push (Value.ref h.objs.size)) >>= _) _ _ _
    refine wpAny_bind (wpAny_updateSeq hS' rfl (wpAny_pure ⟨plainId_quiet PySem.F.plain_extend_loop _, ih (n + 1) _ tk _ (acc.push (Value.ref h.objs.size)) (as ++ [h.objs.size]) (by omega) hlt (st'.keep O up) (fun b o b1 b2 b3 b4 b5 e => up b o b1 (he b o b2 b3 b4 b5 (kp b o b1 b2 b3 b4 b5 e)))
      (Heap.get?_update_self _ hS' rfl) (by rw [Array.toList_push, ha, List.map_append]; rfl) (by rw [List.length_append, hl]; rfl) ⟨?_, ?_, ?_⟩ (by rw [sz2]; exact Nat.le_succ_of_le hlo)⟩) (by rw [hsz]; omega) (by show (acc.push (Value.ref h.objs.size)).size ≤ sizeLine + 1; rw [Array.size_push, hsz]; omega))
    · refine List.pairwise_append.mpr ⟨G.rise, List.pairwise_singleton _ _, fun x hx y hy => ?_⟩
      rw [List.mem_singleton.mp hy]
      exact G.there hx
    · intro x hx
      rcases List.mem_append.mp hx with hx | hx
      · exact G.above x hx
      · rw [List.mem_singleton.mp hx]; exact hlo
    · intro m x hx
      rcases Nat.lt_trichotomy m as.length with h1 | h1 | h1
      · rw [List.getElem?_append_left h1] at hx
        obtain ⟨u, v, eu', ev', ex⟩ := G.pairs m x hx
        have ⟨f1, f2, f3, f4, f5⟩ := far G x (List.mem_of_getElem? hx)
        exact ⟨u, v, eu', ev', up x _ f1 (he x _ f2 f3 f4 f5 ex)⟩
      · subst h1
        have e : h.objs.size = x := by simpa using hx
        subst e
        rw [hl]
        exact ⟨_, _, eu, ev, up _ _ (Nat.ne_of_gt lS) eT⟩
      · rw [List.getElem?_eq_none (by rw [List.length_append, List.length_singleton]; omega)] at hx
        cases hx
theorem zl_extend {R : Result → Shared → Prop} {res : Value} {c₀ : Nat} (hh : A.handled = none) (D : ZipApart z TI TO i j a b) (O : OffS z TI TO i j a b S) (hn : xs.size ≤ sizeLine) (ez : ys.size = xs.size) (st : ZS z TI TO i j a b S xs ys 0 s.heap) (e0 : IsZip s.heap z TI TO .none) (lTO : TO < s.heap.objs.size)
    (hS : s.heap.get? S = some (lstO #[] c₀))
    (hR : ∀ g tk acc c as, (∀ b o, b ≠ S → b ≠ z → b ≠ TO → b ≠ i → b ≠ j → s.heap.get? b = some o → g.get? b = some o) → g.get? S = some (lstO acc c) → as.length = xs.size → ZG xs ys s.heap.objs.size g as → acc.toList = as.map Value.ref → R (.ok (.ret res)) { s with heap := g, toks := tk }) :
    wpAny (model prog w) A.in1 (Builtin.List.listExtendWith (.ref S) (.ref z) res)
      (fun fin s' => match fin with | .done f => R (.ok f) s' | .again c' => c'.quiet = true ∧ codeAny (model prog w) A c' R s') (fun e s' => R (.error e) s') s := by
  have ty : s.TypeIs (.ref z) "zip" := ⟨_, e0, rfl⟩
  have l1 : i < s.heap.objs.size := by obtain ⟨_, e, _⟩ := st.i1; exact Heap.lt_size e
  have l2 : j < s.heap.objs.size := by obtain ⟨_, e, _⟩ := st.i2; exact Heap.lt_size e
  unfold Builtin.List.listExtendWith
  refine wpAny_bind (wpAny_typeOf ty ?_)
  have h1 : Builtin.List.listSameRef (.ref S) (.ref z) = false := by simp [Builtin.List.listSameRef, O.z.symm]
  have h2 : (Value.type "zip" == Value.type "list") = false := by decide
  have h3 : (Value.type "zip" == Value.type "tuple") = false := by decide
  simp only [h1, h2, h3, Bool.or_false, Bool.false_eq_true, if_false]
  refine wpAny_bind (wpAny_pyIter_zip e0 ?_)
  refine wpAny_bind (wpAny_holding ?_)
  unfold Builtin.List.listLengthHint
  refine wpAny_bind (wpAny_specialOf ty zip_no_len ?_)
  show wpAny _ A.in1 (specialOf (Value.ref z) (Str.ofString "__length_hint__") >>= _) _ _ _
  refine wpAny_bind (wpAny_specialOf ty zip_no_hint (wpAny_pure ?_))
  show wpAny _ A.in1 (rule "list.extend.makes-room" >>= fun _ => Builtin.List.listTouch (.ref S) >>= fun _ => again (.builtin "list.extend.loop" ⟨[.ref S, .ref z, res], []⟩)) _ _ _
  refine wpAny_bind (wpAny_rule (wpAny_bind ?_))
  show wpAny _ A.in1 (updateSeq S (·.push .none) >>= fun _ => updateSeq S (·.pop)) _ _ _
  refine wpAny_bind (wpAny_updateSeq hS rfl ?_)
  have hS2 := Heap.get?_update_self (Obj.mapSeq (·.push Value.none)) hS rfl
  refine wpAny_updateSeq (hz := by seq_fits) hS2 rfl ?_
  have hS3 := Heap.get?_update_self (Obj.mapSeq (·.pop)) hS2 rfl
  have oth : ∀ b o, b ≠ S → s.heap.get? b = some o → ((s.heap.update S (Obj.mapSeq (·.push Value.none))).update S (Obj.mapSeq (·.pop))).get? b = some o := fun b o nb e => (Heap.get?_update_other _ _ (Ne.symm nb)).trans ((Heap.get?_update_other _ _ (Ne.symm nb)).trans e)
  refine wpAny_pure ⟨plainId_quiet PySem.F.plain_extend_loop _, zl_loop (s := s) (h₁ := s.heap) hh D O ⟨Heap.lt_size hS, Heap.lt_size e0, lTO, l1, l2⟩ hn ez hR xs.size 0 _ s.toks _ #[] [] (Nat.sub_zero _) (Nat.zero_le _) (st.keep O oth) (fun b o b1 _ _ _ _ e => oth b o b1 e) hS3 rfl rfl
    ⟨List.Pairwise.nil, (fun _ q => nomatch q), (fun n c q => by simp at q)⟩ (by rw [Heap.size_update, Heap.size_update]; exact Nat.le_refl _)⟩
/-- list(z), z a zip object just made of two lists of one length -/
theorem zl_call {Q : Value → Shared → Prop} (hh : A.handled = none) (D : ZipApart z TI TO i j a b) (hn : xs.size ≤ sizeLine) (ez : ys.size = xs.size) (e0 : IsZip s.heap z TI TO .none) (eI : IsPair s.heap TI (.ref i) (.ref j)) (eO : IsPair s.heap TO .none .none) (q1 : s.heap.IsListIter i a 0) (q2 : s.heap.IsListIter j b 0) (q3 : s.heap.IsList a xs) (q4 : s.heap.IsList b ys)
    (hQ : ∀ g tk acc c as, (∀ b o, b ≠ z → b ≠ TO → b ≠ i → b ≠ j → s.heap.get? b = some o → g.get? b = some o) → g.get? s.heap.objs.size = some (lstO acc c) → as.length = xs.size → ZG xs ys (s.heap.objs.size + 1) g as → acc.toList = as.map Value.ref → Q (.ref s.heap.objs.size) { s with heap := g, toks := tk }) :
    wpAny (model prog w) A (call (.type "list") [.ref z]) Q E s := by
  refine callType_codes (Q₁ := fun obj s₁ => obj = .ref s.heap.objs.size ∧ s₁ = { s with heap := s.heap.push (lstO #[] 0) }) PySem.F.called_list (PySem.F.typeCall_list_1 _) PySem.F.entry_list_init (code_list_new _ ⟨rfl, rfl⟩) fun obj s₁ hs => ?_
  obtain ⟨rfl, rfl⟩ := hs
  have hS : (s.heap.push (lstO #[] 0)).get? s.heap.objs.size = some (lstO #[] 0) := Heap.get?_push_size _ rfl
  have pu : ∀ {c : Addr} {o : Obj}, s.heap.get? c = some o → (s.heap.push (lstO #[] 0)).get? c = some o := fun e => Heap.get?_push_of_some _ e
  have ne : ∀ {c : Addr} {o : Obj}, s.heap.get? c = some o → c ≠ s.heap.objs.size := fun e => Nat.ne_of_lt (Heap.lt_size e)
  have O : OffS z TI TO i j a b s.heap.objs.size := ⟨ne e0, ne eI, ne eO, let ⟨_, e, _⟩ := q1; ne e, let ⟨_, e, _⟩ := q2; ne e, let ⟨_, e, _⟩ := q3; ne e, let ⟨_, e, _⟩ := q4; ne e⟩
  have Z : ZS z TI TO i j a b s.heap.objs.size xs ys 0 (s.heap.push (lstO #[] 0)) := ⟨pu eI, q1.at fun _ e => pu e, q2.at fun _ e => pu e, q3.at fun _ e => pu e, q4.at fun _ e => pu e, .inl ⟨pu e0, _, _, pu eO⟩⟩
  refine ⟨⟨_, hS, rfl⟩, PySem.F.args_list_init_2 _ _, ?_⟩
  show wpAny _ _ (do let old ← Builtin.List.listItems (.ref s.heap.objs.size); Builtin.List.listUpdate (.ref s.heap.objs.size) (fun _ => #[]); letGo old.toList.reverse; Builtin.List.listExtendWith (.ref s.heap.objs.size) (.ref z) .none) _ _ _
  refine wpAny_bind ?_
  unfold Builtin.List.listItems
  refine wpAny_bind (wpAny_seqItems hS rfl (wpAny_pure ?_))
  show wpAny _ _ (updateSeq s.heap.objs.size (fun _ => #[]) >>= fun _ => letGo (#[] : Array Value).toList.reverse >>= fun _ => Builtin.List.listExtendWith (.ref s.heap.objs.size) (.ref z) .none) _ _ _
  refine wpAny_bind (wpAny_updateSeq hS rfl ?_)
  have hS2 := Heap.get?_update_self (Obj.mapSeq (fun _ => (#[] : Array Value))) hS rfl
  have oth : ∀ c o, c ≠ s.heap.objs.size → (s.heap.push (lstO #[] 0)).get? c = some o → ((s.heap.push (lstO #[] 0)).update s.heap.objs.size (Obj.mapSeq (fun _ => (#[] : Array Value)))).get? c = some o := fun c o nc e => (Heap.get?_update_other _ _ (Ne.symm nc)).trans e
  have sz : ((s.heap.push (lstO #[] 0)).update s.heap.objs.size (Obj.mapSeq (fun _ => (#[] : Array Value)))).objs.size = s.heap.objs.size + 1 := by rw [Heap.size_update, Heap.size_push]
  refine wpAny_bind (wpAny_letGo ?_)
  refine zl_extend (A := A.in1) hh D O hn ez (Z.keep O oth) (oth _ _ O.z (pu e0)) (by show TO < ((s.heap.push (lstO #[] 0)).update s.heap.objs.size (Obj.mapSeq (fun _ => (#[] : Array Value)))).objs.size; rw [sz]; exact Nat.lt_succ_of_lt (Heap.lt_size eO)) hS2 fun g tk acc c as kp e1 el G ea => ?_
  refine ⟨rfl, hQ g tk acc c as (fun c o c2 c3 c4 c5 e => kp c o (ne e) c2 c3 c4 c5 (oth _ _ (ne e) (pu e))) e1 el ?_ ea⟩
  have e : ((s.heap.push (lstO #[] 0)).update s.heap.objs.size (Obj.mapSeq (fun _ => (#[] : Array Value)))).objs.size = s.heap.objs.size + 1 := sz
  rw [← e]; exact G
end
end My

namespace My
open PySem PySem.Spec PyProof.Rows L2
/-- pairs of values tracked at their addresses -/
def putP : Hp → List Addr → List V → List V → Hp
  | H, c :: as, u :: us, v :: vs => putP (upd H c (.tup [u, v])) as us vs
  | H, _, _, _ => H
theorem putP_off {b : Addr} : ∀ (as : List Addr) (us vs : List V) (H : Hp), b ∉ as → putP H as us vs b = H b
  | [], _, _, _, _ => rfl
  | _ :: _, [], _, _, _ => rfl
  | _ :: _, _ :: _, [], _, _ => rfl
  | c :: as, u :: us, v :: vs, H, h => by
    show putP (upd H c (.tup [u, v])) as us vs b = H b
    rw [putP_off as us vs _ (fun z => h (List.mem_cons_of_mem _ z)), upd_ne (fun z => h (by rw [z]; exact List.mem_cons_self))]
theorem putP_at : ∀ (as : List Addr) (us vs : List V) (H : Hp), as.length = us.length → vs.length = us.length → as.Nodup → ∀ (n : Nat) (c : Addr), as[n]? = some c → ∃ u v, us[n]? = some u ∧ vs[n]? = some v ∧ putP H as us vs c = some (.tup [u, v])
  | [], _, _, _, _, _, _, n, c, h => by simp at h
  | _ :: _, [], _, _, h, _, _, _, _, _ => by cases h
  | _ :: _, _ :: _, [], _, _, h, _, _, _, _ => by cases h
  | a :: as, u :: us, v :: vs, H, e1, e2, nd, n, c, h => by
    have nd' := List.nodup_cons.mp nd
    cases n with
    | zero =>
      have e : a = c := Option.some.inj h
      subst e
      refine ⟨u, v, rfl, rfl, ?_⟩
      show putP (upd H a (.tup [u, v])) as us vs a = _
      rw [putP_off as us vs _ nd'.1, upd_same]
    | succ n => exact putP_at as us vs (upd H a (.tup [u, v])) (Nat.succ.inj e1) (Nat.succ.inj e2) nd'.2 n c h
theorem vals_refs : ∀ as : List Addr, Vals (as.map V.ref) (as.map Value.ref)
  | [] => .nil
  | _ :: as => .cons rfl (vals_refs as)
/-- list(zip(xs, ys)), two lists of one length: a new list of new pairs -/
def tZipL (K : PySem.W.Frag) (ta : TA) : TE := fun σ H Q => ta σ H fun vs H1 => ∃ (a b : Addr) (us ws : List V), vs = [.ref a, .ref b] ∧ SqL K H1 a us ∧ SqL K H1 b ws ∧ ws.length = us.length ∧
  ∀ (H' : Hp) (p : Addr) (as : List Addr), Same H1 H' → H1 p = none → H' p = some (.lst (as.map V.ref)) → as.length = us.length → (∀ (n : Nat) (c : Addr), as[n]? = some c → H1 c = none ∧ ∃ u v, us[n]? = some u ∧ ws[n]? = some v ∧ H' c = some (.tup [u, v])) → Q (.ref p) H'
section
variable {X : Cx}
theorem pe_zipL {e e2 : Expr} {ta : TA} {p zp pos zpos : Pos} (hc : X.calm = true) (hg : Gl X "list") (hm : X.mg "list" = none) (gz : Gl X "zip") (mz : X.mg "zip" = none) (ha : PA X [e, e2] ta)
    (hs : starEach [e, e2] X.env = (false, eval e X.env) :: starEach [e2] X.env := by rfl) (hpl : (backTo zpos (starEach [e2] X.env)).any (·.1) = false := by rfl)
    (hs1 : starEach [.Call (.Name "zip" zp) [e, e2] [] zpos] X.env = (false, eval (.Call (.Name "zip" zp) [e, e2] [] zpos) X.env) :: starEach [] X.env := by rfl) :
    PE X (.Call (.Name "list" p) [.Call (.Name "zip" zp) [e, e2] [] zpos] [] pos) (tZipL X.K ta) := by
  refine ⟨fun pins s σ H Q I h => ?_⟩
  refine wpAny_Call_Name_kw (ld_blt I hg hm PyProof.Rows.boot_list ?_)
  refine PyProof.Rows.callWith_type1 ?_ hs1 rfl
  rw [hs1]
  show wpAny _ _ (spliced ((false, eval (.Call (.Name "zip" zp) [e, e2] [] zpos) X.env) :: backTo pos (starEach [] X.env))) _ _ s
  refine Calls.spliced_cons (wpAny_Call_Name_kw (ld_blt I gz mz PyProof.Rows.boot_zip (PyProof.Rows.callWith_type1 (thn (ha.run zpos pins s σ H _ I h) fun xs s1 hh => ?_) hs hpl)))
  obtain ⟨vs, H1, I1, r1, a, b, us, ws, ev, Lu, Lw, el, q⟩ := hh
  subst ev
  obtain ⟨x1, x2, rfl, e1, e2⟩ := vals2 r1
  cases (show x1 = Value.ref a from e1)
  cases (show x2 = Value.ref b from e2)
  obtain ⟨is, rp, pa, za⟩ := I1.list Lu
  obtain ⟨js, rq, pb, zb⟩ := I1.list Lw
  have ep := rp.length
  have eq := rq.length
  refine call_zip_2 pa.isList pb.isList fun g1 z0 zI zO zi zj zs kp1 => Calls.spliced_nil ?_
  have big : ∀ {c : Addr} {o : Obj}, s1.heap.get? c = some o → c < s1.heap.objs.size := fun e => Heap.lt_size e
  refine zl_call (s := { s1 with heap := g1 }) (I1.ok.hd hc) (PySem.W.ktu_apart s1.heap.objs.size a b pa.lt pb.lt) (by rw [List.size_toArray]; omega) (by rw [List.size_toArray, List.size_toArray]; omega) z0 zI zO zi zj (pa.isList.at fun _ e => kp1 _ _ e) (pb.isList.at fun _ e => kp1 _ _ e) fun g tk acc c as kp2 eS l G ea => ?_
  dsimp only at kp2 eS G
  rw [zs] at eS G ⊢
  rw [List.size_toArray] at l
  have hk : ∀ c o, s1.heap.get? c = some o → g.get? c = some o := fun c o e => by
    have lt := big e
    exact kp2 c o (Nat.ne_of_lt (Nat.lt_of_lt_of_le lt (Nat.le_add_right _ _))) (Nat.ne_of_lt (Nat.lt_of_lt_of_le lt (Nat.le_add_right _ _))) (Nat.ne_of_lt lt) (Nat.ne_of_lt (Nat.lt_succ_of_lt lt)) (kp1 c o e)
  have new : ∀ t ∈ as, H1 t = none := fun t ht => I1.hok.fresh (Nat.le_trans (Nat.le_add_right _ 6) (G.above t ht))
  have newS : H1 (s1.heap.objs.size + 5) = none := I1.hok.fresh (Nat.le_add_right _ _)
  have nS : s1.heap.objs.size + 5 ∉ as := fun z => Nat.lt_irrefl _ (G.above _ z)
  have nd : as.Nodup := List.Pairwise.imp (fun {x y} (h : x < y) => Nat.ne_of_lt h) G.rise
  have atP := putP_at as us ws (upd H1 (s1.heap.objs.size + 5) (.lst (as.map V.ref))) (by omega) el nd
  have off : ∀ t, t ∉ as → t ≠ s1.heap.objs.size + 5 → putP (upd H1 (s1.heap.objs.size + 5) (.lst (as.map V.ref))) as us ws t = H1 t := fun t h1 h2 => by rw [putP_off as us ws _ h1, upd_ne h2]
  have kp : ∀ t u, H1 t = some u → putP (upd H1 (s1.heap.objs.size + 5) (.lst (as.map V.ref))) as us ws t = some u := fun t u e => by
    rw [off t (fun z => by rw [new t z] at e; cases e) (fun z => by rw [z, newS] at e; cases e)]
    exact e
  have eS' : putP (upd H1 (s1.heap.objs.size + 5) (.lst (as.map V.ref))) as us ws (s1.heap.objs.size + 5) = some (.lst (as.map V.ref)) := by rw [putP_off as us ws _ nS, upd_same]
  have J : Inv X pins σ (putP (upd H1 (s1.heap.objs.size + 5) (.lst (as.map V.ref))) as us ws) { s1 with heap := g, toks := tk } := by
    refine I1.call' (ch := []) rfl ⟨fun t o e _ _ _ => hk t o e, fun t o e _ _ _ => ⟨o.slots, hk t o e⟩, fun t o e n _ => ?_, fun t o e _ => ⟨o, hk t o e⟩, fun t ys e => kp t _ e, fun t o u e => kp t _ e, fun t ps e => ⟨#[], by rw [kp t _ e]; simp⟩⟩ (fun t u e => ?_) I1.bare fun t z => by simp at z
    · rw [off t (fun z => absurd (big e) (Nat.not_lt.mpr (Nat.le_trans (Nat.le_add_right _ 6) (G.above t z)))) (fun z => absurd (big e) (by rw [z]; exact Nat.not_lt.mpr (Nat.le_add_right _ _)))]
      exact n
    · by_cases ht : t ∈ as
      · obtain ⟨n, hn⟩ := List.mem_iff_getElem?.mp ht
        obtain ⟨u1, v1, f1, f2, f3⟩ := atP n t hn
        rw [f3] at e
        cases e
        obtain ⟨y1, y2, g1', g2', g3'⟩ := G.pairs n t hn
        obtain ⟨w1, hw1, rw1⟩ := rp.get f1
        obtain ⟨w2, hw2, rw2⟩ := rq.get f2
        have z1 : is[n]? = some y1 := by simpa using g1'
        have z2 : js[n]? = some y2 := by simpa using g2'
        rw [hw1] at z1
        rw [hw2] at z2
        cases z1
        cases z2
        exact ⟨(by show 2 ≤ sizeLine; decide), [y1, y2], .cons rw1 (.cons rw2 .nil), _, g3', rfl, _, rfl⟩
      · by_cases h2 : t = s1.heap.objs.size + 5
        · rw [h2] at e ⊢
          rw [eS'] at e
          cases e
          refine ⟨by rw [List.length_map]; omega, acc.toList, c, by rw [ea]; exact vals_refs as, ?_⟩
          rw [Array.toArray_toList]
          exact eS
        · rw [off t ht h2] at e
          exact (I1.hok t u e).stay (fun d v _ y => hk d v y) (fun d y => kp d _ y) fun d ys y => kp d _ y
  exact ⟨.ref _, _, J, rfl, q _ _ as kp newS eS' (by omega) fun n t hn => ⟨new t (List.mem_of_getElem? hn), atP n t hn⟩⟩
end
end My

namespace My
open PySem PySem.Spec PyProof.Rows L2
/-! ### a dict comprehension over anything that is walked -/
theorem dc_it {J : It} {n : Nat} {G : Hp → Prop} {Y : Nat → Hp → V → Hp → Prop} (w : Walk J n G Y) {g : TG} {tt : TT} {tk tv : TE} {vs : List Nat} {σ : L2.St} {H1 : Hp} {D : Addr} {Qd : Hp → Prop} (Pv : Nat → Hp → Prop) (h0 : Pv 0 (L2.upd H1 D (.dK []))) (hG : ∀ i H, i ≤ n → Pv i H → G H)
    (hs : ∀ i x H H', i < n → Pv i H → Y i H x H' → g x (wipe σ vs) H' fun σ2 H2 => wipe σ2 vs = wipe σ vs ∧ tt σ2 H2 fun b H3 =>
      if b = true then tk σ2 H3 fun y H4 => tv σ2 H4 fun z H5 => ∃ kvs k, y = kV k ∧ H5 D = some (.dK kvs) ∧ kvs.length < sizeLine ∧ Pv (i + 1) (L2.upd H5 D (.dK (putK kvs k z))) else Pv (i + 1) H3) (hd : ∀ H, Pv n H → Qd H) :
    ∃ W : Nat → Nat → Hp → Prop, (∃ m, W 0 m (L2.upd H1 D (.dK []))) ∧ ∀ i m H, W i m H →
      (J.stop i H ∧ Qd H) ∨ (J.go i H ∧ ∃ Nx : Hp → Prop, (∀ H', Nx H' → ∃ m', m' < m ∧ W (i + 1) m' H') ∧ ∀ x H', J.yld i H x H' → g x (wipe σ vs) H' fun σ2 H2 => wipe σ2 vs = wipe σ vs ∧ tt σ2 H2 fun b H3 =>
        if b = true then tk σ2 H3 fun y H4 => tv σ2 H4 fun z H5 => ∃ kvs k, y = kV k ∧ H5 D = some (.dK kvs) ∧ kvs.length < sizeLine ∧ Nx (L2.upd H5 D (.dK (putK kvs k z))) else Nx H3) := by
  refine ⟨fun i m H => m + i = n ∧ Pv i H, ⟨n, rfl, h0⟩, fun i m H ⟨em, p⟩ => ?_⟩
  have gH := hG i H (by omega) p
  by_cases lt : i < n
  · exact .inr ⟨w.goes i H lt gH, Pv (i + 1), fun H' p' => ⟨m - 1, by omega, by omega, p'⟩, fun x H' y => hs i x H H' lt p (w.yields i H x H' lt gH y)⟩
  · have e : i = n := by omega
    rw [e] at p ⊢
    exact .inl ⟨w.stops H gH, hd H p⟩
/-! ### a tuple times 0 or 1 -/
theorem mul_zero (l : Addr) (items : Array Value) (n : Nat) (dd : Option Addr) (sl : Array (Option Value)) (u : Tok) (ne : items.isEmpty = false) :
    Meets (Builtin.«tuple.__mul__» ⟨[.ref l, .int 0 u], []⟩) fun _ R s => s.heap.get? l = some { cls := .type "tuple", dict := dd, data := .seq items n, slots := sl } ∧ R (.ok (.ret (Value.ref s.heap.objs.size))) { s with heap := s.heap.push { cls := Value.type "tuple", data := Data.seq #[] } } := by
  refine .of_wp fun prog w A R s z => ?_
  obtain ⟨hp, g, d, tk, os⟩ := s
  obtain ⟨z1, z2⟩ := z
  have f1 := AutoSeq1.idx_int
  have c1 : (items.isEmpty || (0 : Int) == 1) = false := by rw [ne]; rfl
  have c2 : (decide ((0 : Int) ≤ 0) || items.isEmpty) = true := by rw [ne]; rfl
  wp_walk using AutoSeq1.wpAny_loadPart' z1
  exact ⟨_, rfl, z2⟩
theorem mul_one' (l : Addr) (items : Array Value) (n : Nat) (dd : Option Addr) (sl : Array (Option Value)) (u : Tok) :
    Meets (Builtin.«tuple.__mul__» ⟨[.ref l, .int 1 u], []⟩) fun _ R s => s.heap.get? l = some { cls := .type "tuple", dict := dd, data := .seq items n, slots := sl } ∧ R (.ok (.ret (Value.ref l))) s := by
  refine .of_wp fun prog w A R s z => ?_
  obtain ⟨hp, g, d, tk, os⟩ := s
  obtain ⟨z1, z2⟩ := z
  have f1 := AutoSeq1.idx_int
  have c1 : (items.isEmpty || (1 : Int) == 1) = true := by cases items.isEmpty <;> rfl
  wp_walk using AutoSeq1.wpAny_loadPart' z1
  exact ⟨_, rfl, z2⟩
/-- a tuple that is not empty, times 0 or 1 -/
def rRepT01 (K : PySem.W.Frag) : R2 := fun x y H Q => ∃ (l : Addr) (xs : List V), x = .ref l ∧ SqT K H l xs ∧ xs ≠ [] ∧ ((y = .int 0 ∧ ∀ p, H p = none → Q (.ref p) (L2.upd H p (.tup []))) ∨ (y = .int 1 ∧ Q (.ref l) H))
theorem op_repT01 {X : Cx} : OpR X (binaryOp .Mult) (rRepT01 X.K) := by
  intro pins s σ H x y v u Q I rx ry h
  obtain ⟨l, xs, rfl, hT, hne, h⟩ := h
  cases rx
  obtain ⟨its, r, ⟨⟨cls, dd, data, sl⟩, ho, hc, n, hd⟩, hs⟩ := I.tuple hT
  simp only at hc hd
  subst hc hd
  have hi : its.toArray.isEmpty = false := by
    cases its with
    | nil =>
      have l0 : xs.length = 0 := r.length
      exact absurd (List.eq_nil_of_length_eq_zero l0) hne
    | cons a b => rfl
  rcases h with ⟨rfl, q⟩ | ⟨rfl, q⟩
  · obtain ⟨t, rfl⟩ := ry
    refine wpAny_binaryOp_repeat_ref (T := "tuple") (U := "int") (by decide) ⟨_, ho, rfl⟩ (fun s' => typeIs_int s' 0 t) noFill_tuple_mul F.fills_int_mul F.slot_int_rmul repeat_tuple F.slot_int_index.lookup
      (call_meets F.slot_int_rmul (typeIs_int s 0 t) F.entry_int_rmul (F.args_int_rmul_2 _ _) (int_rmul_tuple 0 t l its.toArray n dd sl)
        ⟨ho, rfl, ⟨_, ho, rfl⟩, call_meets F.slot_tuple_mul ⟨_, ho, rfl⟩ F.entry_tuple_mul (F.args_tuple_mul_2 _ _) (mul_zero l its.toArray n dd sl t hi) ⟨ho, ?_⟩⟩)
    exact ⟨.ref s.heap.objs.size, _, I.laid (t' := s.toks) (o := .tup []) (fun b ob q => Heap.get?_push_of_some _ q) (Nat.le_refl _) ⟨Nat.zero_le _, [], .nil, IsTup.new _ _⟩, rfl, q _ (I.hok.fresh (Nat.le_refl _))⟩
  · obtain ⟨t, rfl⟩ := ry
    refine wpAny_binaryOp_repeat_ref (T := "tuple") (U := "int") (by decide) ⟨_, ho, rfl⟩ (fun s' => typeIs_int s' 1 t) noFill_tuple_mul F.fills_int_mul F.slot_int_rmul repeat_tuple F.slot_int_index.lookup
      (call_meets F.slot_int_rmul (typeIs_int s 1 t) F.entry_int_rmul (F.args_int_rmul_2 _ _) (int_rmul_tuple 1 t l its.toArray n dd sl)
        ⟨ho, rfl, ⟨_, ho, rfl⟩, call_meets F.slot_tuple_mul ⟨_, ho, rfl⟩ F.entry_tuple_mul (F.args_tuple_mul_2 _ _) (mul_one' l its.toArray n dd sl t) ⟨ho, ?_⟩⟩)
    exact ⟨.ref l, H, I, rfl, q⟩
end My

namespace My
open PySem PySem.Spec PyProof.Rows L2
/-- texts among the values are short -/
theorem sz6 {n : Nat} (h : n ≤ 100000) : n ≤ sizeLine := by rw [sizeLine_eq]; omega
def spWord : Sp := fun vs H Q _ => ∃ (v : V) (d : PyData), vs = [v] ∧ Dq H v d ∧ (∀ x, d = .str x → x.length ≤ 100000) ∧ ∀ H', Same H H' → Q (.bl (wordD d)) H'
/-- a list that is filled by a comprehension -/
def Lc (H : Hp) (D : Addr) (ys : List V) (i : Nat) (M : Hp) : Prop := Same H M ∧ M D = some (.lst (ys.take i))
theorem Lc.zero {H : Hp} {D : Addr} {ys : List V} (h : H D = none) : Lc H D ys 0 (L2.upd H D (.lst [])) := ⟨same_new h _, upd_same⟩
theorem Lc.lay {H M : Hp} {D : Addr} {ys : List V} {i : Nat} {y : V} (hD : H D = none) (h : Lc H D ys i M) (hy : ys[i]? = some y) (sm : ys.length ≤ 1000) :
    ∃ acc, M D = some (.lst acc) ∧ acc.length < sizeLine ∧ Lc H D ys (i + 1) (L2.upd M D (.lst (acc ++ [y]))) := by
  obtain ⟨hi, e⟩ := List.getElem?_eq_some_iff.mp hy
  refine ⟨_, h.2, small1000 (by rw [List.length_take]; omega), fun a o q => ?_, ?_⟩
  · rw [upd_ne (ne_of_none q hD)]; exact h.1 a o q
  · rw [upd_same, List.take_succ_eq_append_getElem hi, e]
theorem Lc.same {H M M' : Hp} {D : Addr} {ys : List V} {i : Nat} (h : Lc H D ys i M) (e : Same M M') : Lc H D ys i M' := ⟨h.1.trans e, e _ _ h.2⟩
theorem Lc.all {H M : Hp} {D : Addr} {ys : List V} {n : Nat} (h : Lc H D ys n M) (e : n = ys.length) : Same H M ∧ M D = some (.lst ys) := by
  refine ⟨h.1, ?_⟩
  have q := h.2
  rw [e, List.take_length] at q
  exact q
theorem getM {α : Type} {f : α → V} {xs : List α} {i : Nat} {y : V} (h : (xs.map f)[i]? = some y) : ∃ x, xs[i]? = some x ∧ y = f x := by
  rw [List.getElem?_map] at h
  cases e : xs[i]? with
  | none => rw [e] at h; cases h
  | some u => rw [e] at h; exact ⟨u, rfl, (Option.some.inj h).symm⟩
theorem mapM {α β : Type} {f : α → β} {xs : List α} {i : Nat} {x : α} (h : xs[i]? = some x) : (xs.map f)[i]? = some (f x) := by
  rw [List.getElem?_map, h]; rfl
/-! ### rows -/
abbrev rowV (r : List Int) : List V := r.map V.int
def enoughB (r : List Int) : Bool := r.all fun x => decide (0 ≤ x)
def mixedB (r : List Int) : Bool := r.any (fun x => decide (x < 0)) && r.any (fun x => decide (0 < x))
def combR (a : Int) (r : List Int) (b : Int) (o : List Int) : List Int := List.zipWith (fun x y => a * x + b * y) r o
def spInt1 : Sp := fun vs H Q _ => ∃ i : Int, vs = [.int i] ∧ Q (.bl true) H
def spRowB (f : List Int → Bool) : Sp := fun vs H Q _ => ∃ (a : Addr) (r : List Int), vs = [.ref a] ∧ H a = some (.tup (rowV r)) ∧ r.length ≤ 1000 ∧ ∀ H', Same H H' → Q (.bl (f r)) H'
def spComb : Sp := fun vs H Q _ => ∃ (a b : Addr) (m n : Int) (r o : List Int), vs = [.int m, .ref a, .int n, .ref b] ∧ H a = some (.tup (rowV r)) ∧ H b = some (.tup (rowV o)) ∧ r.length = o.length ∧ r.length ≤ 1000 ∧
  (m = 1) ∧ (n = 1 ∨ n = -1) ∧ ∀ (p : Addr) (H' : Hp), Same H H' → H p = none → H' p = some (.tup (rowV (combR m r n o))) → Q (.ref p) H'
def spWrongRow : Sp := fun vs H Q _ => ∃ (a : Addr) (r : List Int), vs = [.ref a, .int (r.length : Nat)] ∧ H a = some (.tup (rowV r)) ∧ r.length ≤ 1000 ∧ mixedB r = true ∧ ∀ H', Same H H' → Q .non H'
section
variable {P : Program} {w : World} {K : PySem.W.Frag} {mg : Str → Option Value} {base : Heap}
theorem ok_is_word (T : Tx K mg) : FnOk P w K mg base CX0 1 T.a_is_word T.fd_is_word ["value"] spWord := by
  refine T.F_is_word.ok sc_is_word (fun vs H Q E h => ?_) (fun cdv A outer st H vs Q E hr h => ?_)
  · obtain ⟨v, d, rfl, _⟩ := h
    rfl
  obtain ⟨v, d, rfl, dq, hz, k⟩ := h
  refine ⟨_, ((pss_cons (ps_if (PW.pt (pw_or (pt_not (pt_val (pe_callB (show CallR _ (.builtin "isinstance") (rIsi K) from call_isi) (by rfl) T.n_isinstance (by decide +kernel) (pa_cons (pv 0) (pa_cons (pe_bltn (v := .ty "str") (by rfl) T.n_str (by decide +kernel) rfl) pa_nil))))) (pw_or1 (pt_not (pt_chain op_le op_le pe_int (pe_callB call_len_str (by rfl) T.n_len (by decide +kernel) (pa_cons (pv 0) pa_nil)) (pe_gint rfl T.c_LONGEST_WORD))))))
        (pss_one (ps_ret pe_bl))
        pss_nil)
      (pss_one (ps_ret (pe_and (pe_cmpR op_in_sign (pe_ix ix_str (pv 0) pe_int (fun _ _ => rfl)) (pe_gstr rfl T.c_LETTERS) (by rfl)) (pe_one (pe_callB (cr_all rfl) (by rfl) T.n_all (by decide +kernel) (pa_cons (pe_lc (own := [("sign", 1)]) (by rfl) sc_is_word.nd (pi_str (pv 0)) (blkOk_by (own := [("sign", 1)]) (N := ["value", "sign"]) (sc := defScope s_is_word) (by decide +kernel)) (fun _ _ _ _ _ => pg_name (i := 1) sc_is_word.nd rfl (Or.inl rfl)) (fun _ _ _ _ _ => pts_nil) (fun _ _ _ _ _ => (pe_or (pe_cmpR op_in_sign (pv 1) (pe_gstr rfl T.c_LETTERS) (by rfl)) (pe_one (pe_cmpR op_in_sign (pv 1) (pe_gstr rfl T.c_DIGITS) (by rfl)))))) pa_nil)))))))), ?_⟩
  refine ⟨_, rfl, v, .ty "str", .type (tyD d), .type "str", _, rfl, .ty _, dq.ty, is_str d, ?_⟩
  have k0 := k H (Same.refl H)
  cases dq with
  | str x =>
    have lx := hz x rfl
    refine ⟨_, rfl, iteF ?_⟩
    refine ⟨_, rfl, x, rfl, sz6 lx, _, _, rfl, rfl, _, rfl, ?_⟩
    have wd : wordD (.str x) = (decide (x.length ≤ 12) && (match x.cps.toList with
      | [] => false
      | c :: r => inS LTR c && (c :: r).all isAl)) := rfl
    by_cases h1 : 1 ≤ x.length
    · rw [decide_eq_true (by omega : (1 : Int) ≤ (x.length : Int))]
      refine iteT ⟨_, _, rfl, rfl, _, rfl, ?_⟩
      by_cases h2 : x.length ≤ 12
      · rw [decide_eq_true (by omega : (x.length : Int) ≤ 12)]
        refine iteF ?_
        obtain ⟨c, r, ex⟩ : ∃ c r, x.cps.toList = c :: r := by
          cases e : x.cps.toList with
          | nil =>
            have := str_len x
            rw [e] at this
            have : x.length = 0 := this.symm
            omega
          | cons c r => exact ⟨c, r, rfl⟩
        have ec : atI x.cps.toList (0 : Int) = some c := by rw [ex]; exact atI_nat (j := 0) rfl
        have wd2 : wordD (.str x) = (inS LTR c && x.cps.toList.all isAl) := by
          rw [wd, decide_eq_true h2, ex]; rfl
        refine ⟨_, rfl, x, _, c, rfl, rfl, sz6 lx, ec, c, LTR, rfl, rfl, _, rfl, ?_⟩
        have q1 : decide (c ∈ LTR.cps.toList) = inS LTR c := rfl
        rw [q1]
        cases hc : inS LTR c with
        | false =>
          rw [wd2, hc] at k0
          exact iteF k0
        | true =>
          refine iteT ⟨_, rfl, x, rfl, fun D hD => ?_⟩
          refine lc_str (fun i M => Same H M ∧ M D = some (.lst (((x.cps.toList.take i).map isAl).map V.bl))) ⟨same_new hD _, upd_same⟩ ?_ ?_
          · rintro i y M hy ⟨sM, eD⟩
            have hil : i < x.cps.toList.length := (List.getElem?_eq_some_iff.mp hy).1
            have eil : x.cps.toList[i] = y := (List.getElem?_eq_some_iff.mp hy).2
            have lay : ∀ b : Bool, b = isAl y → ∃ acc, M D = some (.lst acc) ∧ acc.length < sizeLine ∧ (Same H (L2.upd M D (.lst (acc ++ [V.bl b]))) ∧ (L2.upd M D (.lst (acc ++ [V.bl b]))) D = some (.lst (((x.cps.toList.take (i + 1)).map isAl).map V.bl))) := fun b eb => by
              refine ⟨_, eD, ?_, fun a o e => ?_, ?_⟩
              · rw [List.length_map, List.length_map, List.length_take]; exact small1000 (by rw [str_len] at hil ⊢; omega)
              · rw [upd_ne (ne_of_none e hD)]
                exact sM a o e
              · rw [upd_same, List.take_succ_eq_append_getElem hil, List.map_append, List.map_append, eil, eb]
                rfl
            refine ⟨rfl, _, rfl, y, LTR, rfl, rfl, _, rfl, ?_⟩
            have q2 : decide (y ∈ LTR.cps.toList) = inS LTR y := rfl
            rw [q2]
            cases hy1 : inS LTR y with
            | true => exact iteT (lay true (by unfold isAl; rw [hy1]; rfl))
            | false => exact iteF ⟨_, rfl, y, DIG, rfl, rfl, lay _ (by unfold isAl; rw [hy1]; rfl)⟩
          · rintro M ⟨sM, eD⟩
            have ef : x.cps.toList.take x.length = x.cps.toList := by rw [← str_len, List.take_length]
            rw [ef] at eD
            refine ⟨D, _, rfl, SqL.of eD, ?_⟩
            have ea : ((x.cps.toList.map isAl).all id) = x.cps.toList.all isAl := by rw [List.all_map]; rfl
            rw [ea]
            have kk := k M sM
            rw [wd2, hc, Bool.true_and] at kk
            exact kk
      · rw [decide_eq_false (by omega : ¬ (x.length : Int) ≤ 12)]
        rw [wd, decide_eq_false h2, Bool.false_and] at k0
        exact iteT k0
    · rw [decide_eq_false (by omega : ¬ (1 : Int) ≤ (x.length : Int))]
      have e0 : x.cps.toList = [] := List.length_eq_zero_iff.mp (by rw [str_len]; omega)
      rw [wd, e0, Bool.and_false] at k0
      exact iteF ⟨_, rfl, k0⟩
  | non => exact ⟨_, rfl, iteT k0⟩
  | bl _ => exact ⟨_, rfl, iteT k0⟩
  | int _ => exact ⟨_, rfl, iteT k0⟩
  | lst _ _ _ => exact ⟨_, rfl, iteT k0⟩
  | tup _ _ => exact ⟨_, rfl, iteT k0⟩
  | dct _ _ => exact ⟨_, rfl, iteT k0⟩
theorem ok_is_integer (T : Tx K mg) : FnOk P w K mg base CX0 1 T.a_is_integer T.fd_is_integer ["value"] spInt1 := by
  refine T.F_is_integer.ok sc_is_integer (fun vs H Q E h => ?_) (fun cdv A outer st H vs Q E hr h => ?_)
  · obtain ⟨i, rfl, _⟩ := h
    rfl
  obtain ⟨i, rfl, k⟩ := h
  refine ⟨_, ((pss_one (ps_ret (pe_and (pe_callB (show CallR _ (.builtin "isinstance") (rIsi K) from call_isi) (by rfl) T.n_isinstance (by decide +kernel) (pa_cons (pv 0) (pa_cons (pe_bltn (v := .ty "int") (by rfl) T.n_int (by decide +kernel) rfl) pa_nil))) (pe_one (pe_not (pe_callB (show CallR _ (.builtin "isinstance") (rIsi K) from call_isi) (by rfl) T.n_isinstance (by decide +kernel) (pa_cons (pv 0) (pa_cons (pe_bltn (v := .ty "bool") (by rfl) T.n_bool (by decide +kernel) rfl) pa_nil))))))))), ?_⟩
  refine ⟨_, rfl, .int i, .ty "int", .type "int", .type "int", _, rfl, .ty _, .base (.int i), kit_ty (r := true) (by decide +kernel), ?_⟩
  refine ⟨_, rfl, iteT ?_⟩
  refine ⟨_, rfl, .int i, .ty "bool", .type "int", .type "bool", _, rfl, .ty _, .base (.int i), kit_ty (r := false) (by decide +kernel), ?_⟩
  exact ⟨_, rfl, k⟩
theorem ok_is_mixed (T : Tx K mg) : FnOk P w K mg base CX0 1 T.a_is_mixed T.fd_is_mixed ["entries"] (spRowB mixedB) := by
  refine T.F_is_mixed.ok sc_is_mixed (fun vs H Q E h => ?_) (fun cdv A outer st H vs Q E hr h => ?_)
  · obtain ⟨a, r, rfl, _⟩ := h
    rfl
  obtain ⟨a, r, rfl, ha, hl, k⟩ := h
  refine ⟨_, ((pss_one (ps_ret (pe_and (pe_callB (cr_any rfl) (by rfl) T.n_any (by decide +kernel) (pa_cons (pe_lc (own := [("entry", 1)]) (by rfl) sc_is_mixed.nd (pi_tup (pv 0)) (blkOk_by (own := [("entry", 1)]) (N := ["entries", "entry"]) (sc := defScope s_is_mixed) (by decide +kernel)) (fun _ _ _ _ _ => pg_name (i := 1) sc_is_mixed.nd rfl (Or.inl rfl)) (fun _ _ _ _ _ => pts_nil) (fun _ _ _ _ _ => (pe_cmpR op_lt (pv 1) pe_int (nomark _)))) pa_nil)) (pe_one (pe_callB (cr_any rfl) (by rfl) T.n_any (by decide +kernel) (pa_cons (pe_lc (own := [("entry", 1)]) (by rfl) sc_is_mixed.nd (pi_tup (pv 0)) (blkOk_by (own := [("entry", 1)]) (N := ["entries", "entry"]) (sc := defScope s_is_mixed) (by decide +kernel)) (fun _ _ _ _ _ => pg_name (i := 1) sc_is_mixed.nd rfl (Or.inl rfl)) (fun _ _ _ _ _ => pts_nil) (fun _ _ _ _ _ => (pe_cmpR op_gt (pv 1) pe_int (nomark _)))) pa_nil))))))), ?_⟩
  refine ⟨_, rfl, a, rfl, ⟨_, SqT.of ha⟩, fun D hD => ?_⟩
  refine lc_tup (xs := rowV r) (Lc H D ((r.map fun x => decide (x < 0)).map V.bl)) (Lc.zero hD) (fun i M _ z => SqT.of (z.1 _ _ ha)) (fun i y M hy z => ?_) (fun M z => ?_)
  · obtain ⟨x, hx, rfl⟩ := getM hy
    refine ⟨rfl, _, rfl, _, _, rfl, rfl, ?_⟩
    exact Lc.lay hD z (mapM (mapM hx)) (by rw [List.length_map, List.length_map]; exact hl)
  · have ⟨sM, eM⟩ := z.all (by rw [List.length_map, List.length_map, List.length_map])
    refine ⟨D, _, rfl, SqL.of eM, ?_⟩
    have e : ((r.map fun x => decide (x < 0)).any id) = r.any (fun x => decide (x < 0)) := by rw [List.any_map]; rfl
    rw [e]
    refine ⟨_, rfl, ?_⟩
    by_cases h1 : r.any (fun x => decide (x < 0)) = true
    · rw [h1]
      refine iteT ?_
      have ha2 := sM _ _ ha
      refine ⟨_, rfl, a, rfl, ⟨_, SqT.of ha2⟩, fun D2 hD2 => ?_⟩
      refine lc_tup (xs := rowV r) (Lc M D2 ((r.map fun x => decide (0 < x)).map V.bl)) (Lc.zero hD2) (fun i M _ z => SqT.of (z.1 _ _ ha2)) (fun i y M2 hy z => ?_) (fun M2 z => ?_)
      · obtain ⟨x, hx, rfl⟩ := getM hy
        refine ⟨rfl, _, rfl, _, _, rfl, rfl, ?_⟩
        exact Lc.lay hD2 z (mapM (mapM hx)) (by rw [List.length_map, List.length_map]; exact hl)
      · have ⟨sM2, eM2⟩ := z.all (by rw [List.length_map, List.length_map, List.length_map])
        refine ⟨D2, _, rfl, SqL.of eM2, ?_⟩
        have e2 : ((r.map fun x => decide (0 < x)).any id) = mixedB r := by rw [List.any_map]; unfold mixedB; rw [h1, Bool.true_and]; rfl
        rw [e2]
        exact k M2 (sM.trans sM2)
    · have h0 : r.any (fun x => decide (x < 0)) = false := Bool.eq_false_iff.mpr h1
      rw [h0]
      refine iteF ?_
      have kk := k M sM
      have e2 : mixedB r = false := by unfold mixedB; rw [h0]; rfl
      rw [e2] at kk
      exact kk
end
end My

namespace My
open PySem PySem.Spec PyProof.Rows L2
theorem walk_zipM {k l : Bool} {K : PySem.W.Frag} {a b : Addr} {p q : List V} (hl : p.length = q.length) : Walk (ItzM k l K a b) p.length (fun H => SqK k K H a p ∧ SqK l K H b q) (YPair (fun i => p[i]?) (fun i => q[i]?)) := by
  refine ⟨fun i H hi ⟨h1, h2⟩ => ?_, fun H ⟨h1, h2⟩ => ⟨p, q, h1, h2, .inl rfl, Nat.le_refl _, by omega⟩, fun i H v H' _ ⟨h1, h2⟩ y => ?_⟩
  · exact ⟨p, q, _, _, h1, h2, List.getElem?_eq_getElem hi, List.getElem?_eq_getElem (by omega)⟩
  · obtain ⟨C, u, v, rfl, nC, rfl, f1, f2⟩ := y
    exact ⟨C, u, v, rfl, nC, rfl, f1 p h1, f2 q h2⟩
theorem iteNe {n m : Nat} {A B : Prop} (e : n = m) (h : B) : if (!decide (V.int (n : Int) = V.int (m : Int))) = true then A else B := by
  subst e
  rw [decide_eq_true rfl]
  exact iteF h
theorem kit_any1 {K : PySem.W.Frag} {t c : Value} {r : List Value} (h : PySem.W.kitOne K t c = some true) : PySem.W.kitAny K t (c :: r) = some true := by
  rw [PySem.W.kitAny, h]
/-- what a word is as a text -/
theorem word_fit {d : PyData} (h : wordD d = true) : ∀ x, d = .str x → x.length ≤ 100000 ∧ x.length ≤ 12 := by
  intro x e
  subst e
  have h : (decide (x.length ≤ 12) && (match x.cps.toList with
    | [] => false
    | c :: r => inS LTR c && (c :: r).all isAl)) = true := h
  rw [Bool.and_eq_true, decide_eq_true_iff] at h
  exact ⟨by omega, h.1⟩
/-! ### dicts of words -/
def kvB (xs : List Str) : List (Key × V) := xs.map fun x => (.inr x, .bl true)
def kvN (xs : List Str) : List (Key × V) := xs.mapIdx fun i x => (.inr x, .int (i : Nat))
theorem valV_no {kvs : List (Key × V)} {k : Key} (h : ∀ kv ∈ kvs, kv.1 ≠ k) : valV kvs k = none := by
  induction kvs with
  | nil => exact valV_nil
  | cons p r ih => rw [valV_neg (h p (List.mem_cons_self ..))]; exact ih fun kv q => h kv (List.mem_cons_of_mem _ q)
theorem no_kvB {xs : List Str} {x : Str} (h : x ∉ xs) : valV (kvB xs) (Sum.inr x) = none := by
  refine valV_no fun kv q e => ?_
  obtain ⟨y, hy, rfl⟩ := List.mem_map.mp q
  exact h (Sum.inr.inj e ▸ hy)
theorem no_kvN {xs : List Str} {x : Str} (h : x ∉ xs) : valV (kvN xs) (Sum.inr x) = none := by
  refine valV_no fun kv q e => ?_
  obtain ⟨i, hi, rfl⟩ := List.mem_mapIdx.mp q
  exact h (Sum.inr.inj e ▸ List.getElem_mem hi)
theorem put_kvB {xs : List Str} {x : Str} (h : x ∉ xs) : putK (kvB xs) (Sum.inr x) (.bl true) = kvB (xs ++ [x]) := by
  rw [putK_new _ (no_kvB h)]
  unfold kvB
  rw [List.map_append]; rfl
theorem put_kvN {xs : List Str} {x : Str} (h : x ∉ xs) : putK (kvN xs) (Sum.inr x) (.int (xs.length : Nat)) = kvN (xs ++ [x]) := by
  rw [putK_new _ (no_kvN h)]
  unfold kvN
  rw [List.mapIdx_concat]
theorem nodup_take {xs : List Str} {i : Nat} {x : Str} (h : xs.Nodup) (e : xs[i]? = some x) : x ∉ xs.take i := by
  obtain ⟨hi, e⟩ := List.getElem?_eq_some_iff.mp e
  intro m
  obtain ⟨j, hj, ej⟩ := List.mem_take_iff_getElem.mp m
  have hj' : j < i := by omega
  exact absurd ((List.getElem_inj h).mp (ej.trans e.symm)) (by omega)
theorem take_snoc {α : Type} {xs : List α} {i : Nat} {x : α} (e : xs[i]? = some x) : xs.take i ++ [x] = xs.take (i + 1) := by
  obtain ⟨hi, e⟩ := List.getElem?_eq_some_iff.mp e
  rw [List.take_succ_eq_append_getElem hi, e]
/-- a dict that is filled -/
theorem same_put {H M : Hp} {D : Addr} {o : HO} (hD : H D = none) (h : Same H M) : Same H (L2.upd M D o) := fun a u q => by
  rw [upd_ne (ne_of_none q hD)]; exact h a u q
/-! ### barters -/
abbrev Br := Str × List Int
def BrAt (H : Hp) (p : Addr) (b : Br) : Prop := ∃ a, H p = some (.tup [.str b.1, .ref a]) ∧ H a = some (.tup (rowV b.2))
def BrsAt (H : Hp) (ps : List Addr) (bs : List Br) : Prop := ps.length = bs.length ∧ ∀ (i : Nat) (p : Addr) (b : Br), ps[i]? = some p → bs[i]? = some b → BrAt H p b
theorem BrAt.same {H H' : Hp} (e : Same H H') {p : Addr} {b : Br} (h : BrAt H p b) : BrAt H' p b := by
  obtain ⟨a, h1, h2⟩ := h
  exact ⟨a, e _ _ h1, e _ _ h2⟩
theorem BrsAt.same {H H' : Hp} (e : Same H H') {ps : List Addr} {bs : List Br} (h : BrsAt H ps bs) : BrsAt H' ps bs := ⟨h.1, fun i p b h1 h2 => (h.2 i p b h1 h2).same e⟩
structure GoodBk (gs : List Str) (bs : List Br) : Prop where
  gw : ∀ x ∈ gs, wordD (.str x) = true
  gn : gs.Nodup
  gl : gs.length ≤ 100
  bw : ∀ b ∈ bs, wordD (.str b.1) = true ∧ b.2.length = gs.length ∧ mixedB b.2 = true
  bn : (bs.map (·.1)).Nodup
  bl : bs.length ≤ 100
def spWrongGoods : Sp := fun vs H Q _ => ∃ (g : Addr) (gs : List Str), vs = [.ref g] ∧ H g = some (.lst (gs.map V.str)) ∧ (∀ x ∈ gs, wordD (.str x) = true) ∧ gs.Nodup ∧ gs.length ≤ 100 ∧ ∀ H', Same H H' → Q .non H'
def spWrongBarter : Sp := fun vs H Q _ => ∃ (p D : Addr) (b : Br) (kvs : List (Key × V)), vs = [.ref p, .ref D, .int (b.2.length : Nat)] ∧ BrAt H p b ∧ H D = some (.dK kvs) ∧ valV kvs (Sum.inr b.1) = none ∧ wordD (.str b.1) = true ∧ b.2.length ≤ 100 ∧ mixedB b.2 = true ∧ ∀ H', Same H H' → Q .non H'
def spWrongBarters : Sp := fun vs H Q _ => ∃ (l : Addr) (ps : List Addr) (gs : List Str) (bs : List Br), vs = [.ref l, .int (gs.length : Nat)] ∧ H l = some (.lst (ps.map V.ref)) ∧ BrsAt H ps bs ∧ GoodBk gs bs ∧ ∀ H', Same H H' → Q .non H'
section
variable {P : Program} {w : World} {K : PySem.W.Frag} {mg : Str → Option Value} {base : Heap}
theorem ok_wrong_row (T : Tx K mg) : FnOk P w K mg base CX0 2 T.a_wrong_row T.fd_wrong_row ["row", "many"] spWrongRow := by
  refine T.F_wrong_row.ok sc_wrong_row (fun vs H Q E h => ?_) (fun cdv A outer st H vs Q E hr h => ?_)
  · obtain ⟨a, r, rfl, _⟩ := h
    rfl
  obtain ⟨a, r, rfl, ha, hl, hm, k⟩ := h
  have G_is_integer : FnOk P w K mg base CX0 1 T.a_is_integer T.fd_is_integer ["value"] spInt1 := ok_is_integer T
  have hr_is_integer : Room 1 _ := hr
  have G_is_mixed : FnOk P w K mg base CX0 1 T.a_is_mixed T.fd_is_mixed ["entries"] (spRowB mixedB) := ok_is_mixed T
  have hr_is_mixed : Room 1 _ := hr
  refine ⟨_, ((pss_cons (ps_if (PW.pt (pw_or (pt_not (pt_val (pe_callB (show CallR _ (.builtin "isinstance") (rIsi K) from call_isi) (by rfl) T.n_isinstance (by decide +kernel) (pa_cons (pv 0) (pa_cons (pe_bltn (v := .ty "tuple") (by rfl) T.n_tuple (by decide +kernel) rfl) pa_nil))))) (pw_or1 (pt_cmpR op_ne (pe_callB call_len_seq (by rfl) T.n_len (by decide +kernel) (pa_cons (pv 0) pa_nil)) (pv 1) (nomark _)))))
        (pss_one (ps_ret (pe_tup pa_nil)))
        pss_nil)
      (pss_cons (ps_for PassesOwn.never rfl (pi_enumM (by rfl) T.n_enumerate (pa_cons (pv 0) pa_nil)) (pg_tup rfl (pgs_cons (pg_name (i := 2) sc_wrong_row.nd rfl (Or.inl rfl)) (pgs_cons (pg_name (i := 3) sc_wrong_row.nd rfl (Or.inl rfl)) pgs_nil)))
        (pss_one (ps_if (pt_not (pt_val (pe_call G_is_integer hr_is_integer rfl T.m_is_integer T.F_is_integer.kp T.b_is_integer .nil pass0 (pa_cons (pv 3) pa_nil))))
        (pss_one (ps_ret (pe_tup (pa_cons (pv 2) pa_nil))))
        pss_nil)))
      (pss_one (ps_ret (pe_ifExp (pt_val (pe_call G_is_mixed hr_is_mixed rfl T.m_is_mixed T.F_is_mixed.kp T.b_is_mixed .nil pass0 (pa_cons (pv 0) pa_nil))) pe_non (pe_tup pa_nil))))))), ?_⟩
  refine ⟨_, rfl, .ref a, .ty "tuple", .type "tuple", .type "tuple", _, rfl, .ty _, .base (.tup ha), kit_ty (r := true) (by decide +kernel), ?_⟩
  refine ⟨_, rfl, iteF ?_⟩
  refine ⟨_, rfl, a, _, rfl, .inr (SqT.of ha), _, rfl, rfl, _, rfl, iteNe (List.length_map _) ?_⟩
  refine ⟨_, rfl, true, a, _, rfl, SqT.of ha, for_it walk_enumM (fun i σ M => ∃ v2 v3, σ = [some (.ref a), some (.int (r.length : Nat)), v2, v3] ∧ Same H M) ⟨none, none, rfl, Same.refl H⟩ (fun i σ M _ ⟨_, _, _, z⟩ => SqT.of (z _ _ ha)) (fun i x σ M M' hi z y => ?_) (fun σ M z => ?_)⟩
  · obtain ⟨v2, v3, rfl, sM⟩ := z
    obtain ⟨C, u, v, rfl, nC, rfl, eu, ev⟩ := y
    obtain ⟨xi, hx, rfl⟩ := getM ev
    refine ⟨C, _, rfl, SqT.of upd_same, rfl, _, _, rfl, _, _, rfl, rfl, ?_⟩
    refine ⟨_, rfl, _, rfl, _, rfl, iteF ?_⟩
    exact ⟨_, _, rfl, sM.trans (same_new nC _)⟩
  · obtain ⟨v2, v3, rfl, sM⟩ := z
    refine ⟨_, rfl, a, r, rfl, sM _ _ ha, hl, fun M2 s2 => ⟨_, rfl, ?_⟩⟩
    rw [hm]
    exact iteT (k _ (sM.trans s2))
theorem ok_wrong_barter (T : Tx K mg) : FnOk P w K mg base CX0 3 T.a_wrong_barter T.fd_wrong_barter ["barter", "told", "many"] spWrongBarter := by
  refine T.F_wrong_barter.ok sc_wrong_barter (fun vs H Q E h => ?_) (fun cdv A outer st H vs Q E hr h => ?_)
  · obtain ⟨p, D, b, kvs, rfl, _⟩ := h
    rfl
  obtain ⟨p, D, ⟨n, r⟩, kvs, rfl, ⟨a, hp, ha⟩, hD, hv, hw, hl, hm, k⟩ := h
  have hu := hu_of hr
  have G_is_word : FnOk P w K mg base CX0 1 T.a_is_word T.fd_is_word ["value"] spWord := ok_is_word T
  have hr_is_word : Room 1 _ := hr.mono (by omega)
  have G_wrong_row : FnOk P w K mg base CX0 2 T.a_wrong_row T.fd_wrong_row ["row", "many"] spWrongRow := ok_wrong_row T
  have hr_wrong_row : Room 2 _ := hr
  refine ⟨_, ((pss_cons (ps_if (PW.pt (pw_or (pt_not (pt_val (pe_callB (show CallR _ (.builtin "isinstance") (rIsi K) from call_isi) (by rfl) T.n_isinstance (by decide +kernel) (pa_cons (pv 0) (pa_cons (pe_bltn (v := .ty "tuple") (by rfl) T.n_tuple (by decide +kernel) rfl) pa_nil))))) (pw_or1 (pt_cmpR op_ne (pe_callB call_len_seq (by rfl) T.n_len (by decide +kernel) (pa_cons (pv 0) pa_nil)) pe_int (nomark _)))))
        (pss_one (ps_ret (pe_tup pa_nil)))
        pss_nil)
      (pss_cons (ps_asg (pv 0) (pg_tup rfl (pgs_cons (pg_name (i := 3) sc_wrong_barter.nd rfl (Or.inl rfl)) (pgs_cons (pg_name (i := 4) sc_wrong_barter.nd rfl (Or.inl rfl)) pgs_nil))))
      (pss_cons (ps_if (PW.pt (pw_or (pt_not (pt_val (pe_call G_is_word hr_is_word rfl T.m_is_word T.F_is_word.kp T.b_is_word .nil pass0 (pa_cons (pv 3) pa_nil)))) (pw_or1 (pt_cmp (pc_din hu (pv 3) (pv 1)) rfl))))
        (pss_one (ps_ret (pe_tup (pa_cons pe_int pa_nil))))
        pss_nil)
      (pss_cons (ps_set (i := 5) sc_wrong_barter.nd rfl (Or.inl rfl) (pe_call G_wrong_row hr_wrong_row rfl T.m_wrong_row T.F_wrong_row.kp T.b_wrong_row .nil pass0 (pa_cons (pv 4) (pa_cons (pv 2) pa_nil))))
      (pss_one (ps_ret (pe_ifExp (pt_cmpR op_isN (pv 5) pe_non (nomark _)) pe_non (pe_op op_catT (pe_tup (pa_cons pe_int pa_nil)) (pv 5)))))))))), ?_⟩
  refine ⟨_, rfl, .ref p, .ty "tuple", .type "tuple", .type "tuple", _, rfl, .ty _, .base (.tup hp), kit_ty (r := true) (by decide +kernel), ?_⟩
  refine ⟨_, rfl, iteF ?_⟩
  refine ⟨_, rfl, p, _, rfl, .inr (SqT.of hp), rfl, _, rfl, iteNe (n := 2) (m := 2) rfl ?_⟩
  refine ⟨_, rfl, p, _, rfl, SqT.of hp, rfl, _, _, rfl, _, _, rfl, rfl, ?_⟩
  have wl : ∀ x : Str, V.str n = .str x → x.length ≤ 100000 := fun x e => by
    cases e
    exact (word_fit hw n rfl).1
  refine ⟨_, rfl, .str n, .str n, rfl, .str n, fun x e => wl x (by cases e; rfl), fun M sM => ?_⟩
  rw [hw]
  refine ⟨_, rfl, iteF ?_⟩
  have hD1 := sM _ _ hD
  have g1 : DGet M D (.str n) none := by rw [← hv]; exact DGet.k (k := Sum.inr n) hD1
  refine ⟨_, rfl, _, rfl, D, _, rfl, g1, _, rfl, iteF ?_⟩
  refine ⟨_, rfl, _, rfl, a, r, rfl, sM _ _ ha, (by have q : r.length ≤ 100 := hl; omega), hm, fun M2 s2 => ?_⟩
  exact ⟨_, rfl, rfl, _, rfl, iteT (k _ (sM.trans s2))⟩
theorem ok_wrong_barters (T : Tx K mg) : FnOk P w K mg base CX0 4 T.a_wrong_barters T.fd_wrong_barters ["barters", "many"] spWrongBarters := by
  refine T.F_wrong_barters.ok sc_wrong_barters (fun vs H Q E h => ?_) (fun cdv A outer st H vs Q E hr h => ?_)
  · obtain ⟨l, ps, gs, bs, rfl, _⟩ := h
    rfl
  obtain ⟨l, ps, gs, bs, rfl, hp, hb, G, k⟩ := h
  have hu := hu_of hr
  have G_wrong_barter : FnOk P w K mg base CX0 3 T.a_wrong_barter T.fd_wrong_barter ["barter", "told", "many"] spWrongBarter := ok_wrong_barter T
  have hr_wrong_barter : Room 3 _ := hr
  refine ⟨_, ((pss_cons (ps_if (pt_not (pt_val (pe_callB call_isiT (by rfl) T.n_isinstance (by decide +kernel) (pa_cons (pv 0) (pa_cons (pe_tup (pa_cons (pe_bltn (v := .ty "list") (by rfl) T.n_list (by decide +kernel) rfl) (pa_cons (pe_bltn (v := .ty "tuple") (by rfl) T.n_tuple (by decide +kernel) rfl) pa_nil))) pa_nil)))))
        (pss_one (ps_ret (pe_tup (pa_cons pe_int pa_nil))))
        pss_nil)
      (pss_cons (ps_set (i := 2) sc_wrong_barters.nd rfl (Or.inl rfl) pe_dnewK)
      (pss_cons (ps_for PassesOwn.never rfl (pi_enumM (by rfl) T.n_enumerate (pa_cons (pv 0) pa_nil)) (pg_tup rfl (pgs_cons (pg_name (i := 3) sc_wrong_barters.nd rfl (Or.inl rfl)) (pgs_cons (pg_name (i := 4) sc_wrong_barters.nd rfl (Or.inl rfl)) pgs_nil)))
        (pss_cons (ps_set (i := 5) sc_wrong_barters.nd rfl (Or.inl rfl) (pe_call G_wrong_barter hr_wrong_barter rfl T.m_wrong_barter T.F_wrong_barter.kp T.b_wrong_barter .nil pass0 (pa_cons (pv 4) (pa_cons (pv 2) (pa_cons (pv 1) pa_nil)))))
      (pss_cons (ps_if (pt_cmpR op_notN (pv 5) pe_non (nomark _))
        (pss_one (ps_ret (pe_op op_catT (pe_tup (pa_cons pe_int (pa_cons (pv 3) pa_nil))) (pv 5))))
        pss_nil)
      (pss_one (ps_dput hu (pv 2) (pe_ix (show IxR _ (rIxT K) from ix_tup) (pv 4) pe_int (fun _ _ => rfl)) pe_bl rfl)))))
      (pss_one (ps_ret pe_non)))))), ?_⟩
  refine ⟨_, rfl, (by show 2 ≤ sizeLine; decide), fun t0 h0 => ?_⟩
  have s0 := same_new h0 (.tup [.ty "list", .ty "tuple"])
  have hp0 := s0 _ _ hp
  refine ⟨.ref l, t0, [.ty "list", .ty "tuple"], .type "list", [.type "list", .type "tuple"], _, rfl, upd_same, .cons (.ty _) (.cons (.ty _) .nil), .base (.lst hp0), kit_any1 (kit_ty (by decide +kernel)), ?_⟩
  refine ⟨_, rfl, iteF ?_⟩
  intro D hD
  have ff : ∀ (i : Nat) (b : Br), bs[i]? = some b → b.1 ∉ (bs.take i).map (·.1) := fun i b e => by
    have q : (bs.map (·.1))[i]? = some b.1 := mapM e
    have q2 := nodup_take G.bn q
    rw [← List.map_take] at q2
    exact q2
  generalize L2.upd H t0 (.tup [.ty "list", .ty "tuple"]) = H0 at s0 hp0 hD ⊢
  refine ⟨_, rfl, false, l, _, rfl, SqL.of (same_new hD _ _ _ hp0), for_it walk_enumM (fun i σ M => ∃ v3 v4 v5, σ = [some (.ref l), some (.int (gs.length : Nat)), some (.ref D), v3, v4, v5] ∧ Same H0 M ∧ M D = some (.dK (kvB ((bs.take i).map (·.1)))))
    ⟨none, none, none, rfl, same_new hD _, upd_same⟩ (fun i σ M _ ⟨_, _, _, _, z, _⟩ => SqL.of (z _ _ hp0)) (fun i x σ M M' hi z y => ?_) (fun σ M z => ?_)⟩
  · obtain ⟨v3, v4, v5, rfl, sM, eD⟩ := z
    obtain ⟨C, u, v, rfl, nC, rfl, eu, ev⟩ := y
    obtain ⟨p, hpi, rfl⟩ := getM ev
    have il : i < bs.length := by rw [← hb.1]; exact (List.getElem?_eq_some_iff.mp hpi).1
    obtain ⟨b, hbi⟩ : ∃ b, bs[i]? = some b := ⟨_, List.getElem?_eq_getElem il⟩
    have mb : b ∈ bs := List.mem_of_getElem? hbi
    have ⟨bw1, bw2, bw3⟩ := G.bw b mb
    have bat := hb.2 i p b hpi hbi
    have sC := same_new nC (.tup [u, .ref p])
    have gl := G.gl
    have bl := G.bl
    refine ⟨C, _, rfl, SqT.of upd_same, rfl, _, _, rfl, _, _, rfl, rfl, ?_⟩
    refine ⟨_, rfl, _, rfl, _, rfl, p, D, b, _, ?_, bat.same (s0.trans (sM.trans sC)), sC _ _ eD, no_kvB (ff i b hbi), bw1, by omega, bw3, fun M2 s2 => ?_⟩
    · rw [bw2]; rfl
    refine ⟨_, rfl, rfl, _, rfl, iteF ?_⟩
    have bat2 := bat.same (s0.trans (sM.trans (sC.trans s2)))
    obtain ⟨ra, hb1, hb2⟩ := bat2
    refine ⟨_, rfl, _, rfl, p, _, _, _, rfl, rfl, SqT.of hb1, atI_nat (j := 0) rfl, D, _, rfl, DPut.k (k := Sum.inr b.1) (s2 _ _ (sC _ _ eD)) ?_, ?_⟩
    · unfold kvB; rw [List.length_map, List.length_map, List.length_take]; exact small1000 (by omega)
    · rw [put_kvB (ff i b hbi)]
      refine ⟨_, _, _, rfl, same_put hD (sM.trans (sC.trans s2)), ?_⟩
      rw [upd_same, ← take_snoc hbi, List.map_append]
      rfl
  · obtain ⟨v3, v4, v5, rfl, sM, eD⟩ := z
    exact k M (s0.trans sM)
theorem ok_wrong_goods (T : Tx K mg) : FnOk P w K mg base CX0 2 T.a_wrong_goods T.fd_wrong_goods ["goods"] spWrongGoods := by
  refine T.F_wrong_goods.ok sc_wrong_goods (fun vs H Q E h => ?_) (fun cdv A outer st H vs Q E hr h => ?_)
  · obtain ⟨g, gs, rfl, _⟩ := h
    rfl
  obtain ⟨g, gs, rfl, hg, hw, hn, hl, k⟩ := h
  have hu := hu_of hr
  have G_is_word : FnOk P w K mg base CX0 1 T.a_is_word T.fd_is_word ["value"] spWord := ok_is_word T
  have hr_is_word : Room 1 _ := hr
  refine ⟨_, ((pss_cons (ps_if (pt_not (pt_val (pe_callB call_isiT (by rfl) T.n_isinstance (by decide +kernel) (pa_cons (pv 0) (pa_cons (pe_tup (pa_cons (pe_bltn (v := .ty "list") (by rfl) T.n_list (by decide +kernel) rfl) (pa_cons (pe_bltn (v := .ty "tuple") (by rfl) T.n_tuple (by decide +kernel) rfl) pa_nil))) pa_nil)))))
        (pss_one (ps_ret (pe_tup (pa_cons pe_int pa_nil))))
        pss_nil)
      (pss_cons (ps_set (i := 1) sc_wrong_goods.nd rfl (Or.inl rfl) pe_dnewK)
      (pss_cons (ps_for PassesOwn.never rfl (pi_enumM (by rfl) T.n_enumerate (pa_cons (pv 0) pa_nil)) (pg_tup rfl (pgs_cons (pg_name (i := 2) sc_wrong_goods.nd rfl (Or.inl rfl)) (pgs_cons (pg_name (i := 3) sc_wrong_goods.nd rfl (Or.inl rfl)) pgs_nil)))
        (pss_cons (ps_if (PW.pt (pw_or (pt_not (pt_val (pe_call G_is_word hr_is_word rfl T.m_is_word T.F_is_word.kp T.b_is_word .nil pass0 (pa_cons (pv 3) pa_nil)))) (pw_or1 (pt_cmp (pc_din hu (pv 3) (pv 1)) rfl))))
        (pss_one (ps_ret (pe_tup (pa_cons pe_int (pa_cons (pv 2) pa_nil)))))
        pss_nil)
      (pss_one (ps_dput hu (pv 1) (pv 3) pe_bl rfl))))
      (pss_one (ps_ret pe_non)))))), ?_⟩
  refine ⟨_, rfl, (by show 2 ≤ sizeLine; decide), fun t0 h0 => ?_⟩
  have s0 := same_new h0 (.tup [.ty "list", .ty "tuple"])
  have hp0 := s0 _ _ hg
  refine ⟨.ref g, t0, [.ty "list", .ty "tuple"], .type "list", [.type "list", .type "tuple"], _, rfl, upd_same, .cons (.ty _) (.cons (.ty _) .nil), .base (.lst hp0), kit_any1 (kit_ty (by decide +kernel)), ?_⟩
  refine ⟨_, rfl, iteF ?_⟩
  intro D hD
  generalize L2.upd H t0 (.tup [.ty "list", .ty "tuple"]) = H0 at s0 hp0 hD ⊢
  refine ⟨_, rfl, false, g, _, rfl, SqL.of (same_new hD _ _ _ hp0), for_it walk_enumM (fun i σ M => ∃ v2 v3, σ = [some (.ref g), some (.ref D), v2, v3] ∧ Same H0 M ∧ M D = some (.dK (kvB (gs.take i))))
    ⟨none, none, rfl, same_new hD _, upd_same⟩ (fun i σ M _ ⟨_, _, _, z, _⟩ => SqL.of (z _ _ hp0)) (fun i x σ M M' hi z y => ?_) (fun σ M z => ?_)⟩
  · obtain ⟨v2, v3, rfl, sM, eD⟩ := z
    obtain ⟨C, u, v, rfl, nC, rfl, eu, ev⟩ := y
    obtain ⟨x, hx, rfl⟩ := getM ev
    have wx := hw x (List.mem_of_getElem? hx)
    have sC := same_new nC (.tup [u, .str x])
    refine ⟨C, _, rfl, SqT.of upd_same, rfl, _, _, rfl, _, _, rfl, rfl, ?_⟩
    refine ⟨_, rfl, .str x, .str x, rfl, .str x, fun y e => (word_fit wx y e).1, fun M2 s2 => ?_⟩
    rw [wx]
    refine ⟨_, rfl, iteF ?_⟩
    have eD2 := s2 _ _ (sC _ _ eD)
    have g1 : DGet M2 D (.str x) none := by rw [← no_kvB (nodup_take hn hx)]; exact DGet.k (k := Sum.inr x) eD2
    refine ⟨_, rfl, _, rfl, D, _, rfl, g1, _, rfl, iteF ?_⟩
    refine ⟨_, rfl, _, rfl, D, _, rfl, DPut.k (k := Sum.inr x) eD2 ?_, ?_⟩
    · unfold kvB; rw [List.length_map, List.length_take]; exact small1000 (by omega)
    · rw [put_kvB (nodup_take hn hx), take_snoc hx]
      exact ⟨_, _, rfl, same_put hD (sM.trans (sC.trans s2)), upd_same⟩
  · obtain ⟨v2, v3, rfl, sM, eD⟩ := z
    exact k M (s0.trans sM)
end
end My

namespace My
open PySem PySem.Spec PyProof.Rows L2
/-- tuple(..) of a list or tuple, over the frozen part K -/
def rTupOf (K : PySem.W.Frag) : List V → Hp → VK → Prop := fun xs H Q => ∃ p ys, xs = [.ref p] ∧ ((SqL K H p ys ∧ ∀ l, H l = none → Q (.ref l) (L2.upd H l (.tup ys))) ∨ SqT K H p ys ∧ Q (.ref p) H)
theorem call_tupK {X : Cx} : CallR X (.type "tuple") (rTupOf X.K) := call_tuple_of
def BookH (C : Addr) (H : Hp) (x : Addr) (gs : List Str) (bs : List Br) : Prop := ∃ (dx tg tb dg db : Addr) (ps : List Addr),
  H x = some (.ins C dx [("_goods", .ref tg), ("_barters", .ref tb), ("_good_numbers", .ref dg), ("_barter_numbers", .ref db)]) ∧ H tg = some (.tup (gs.map V.str)) ∧
  H tb = some (.tup (ps.map V.ref)) ∧ BrsAt H ps bs ∧ H dg = some (.dK (kvN gs)) ∧ H db = some (.dK (kvN (bs.map (·.1))))
theorem BookH.same {C : Addr} {H H' : Hp} (e : Same H H') {x : Addr} {gs : List Str} {bs : List Br} (h : BookH C H x gs bs) : BookH C H' x gs bs := by
  obtain ⟨dx, tg, tb, dg, db, ps, h1, h2, h3, h4, h5, h6⟩ := h
  exact ⟨dx, tg, tb, dg, db, ps, e _ _ h1, e _ _ h2, e _ _ h3, h4.same e, e _ _ h5, e _ _ h6⟩
/-- a book whose dicts are new since H0 -/
def BookF (C : Addr) (H0 H : Hp) (x : Addr) (gs : List Str) (bs : List Br) : Prop := ∃ (dx tg tb dg db : Addr) (ps : List Addr), H0 dg = none ∧ H0 db = none ∧
  H x = some (.ins C dx [("_goods", .ref tg), ("_barters", .ref tb), ("_good_numbers", .ref dg), ("_barter_numbers", .ref db)]) ∧ H tg = some (.tup (gs.map V.str)) ∧
  H tb = some (.tup (ps.map V.ref)) ∧ BrsAt H ps bs ∧ H dg = some (.dK (kvN gs)) ∧ H db = some (.dK (kvN (bs.map (·.1))))
theorem BookF.book {C : Addr} {H0 H : Hp} {x : Addr} {gs : List Str} {bs : List Br} (h : BookF C H0 H x gs bs) : BookH C H x gs bs := by
  obtain ⟨dx, tg, tb, dg, db, ps, _, _, h⟩ := h
  exact ⟨dx, tg, tb, dg, db, ps, h⟩
theorem BrsAt.get {H : Hp} {ps : List Addr} {bs : List Br} (h : BrsAt H ps bs) {i : Nat} {p : Addr} (e : ps[i]? = some p) : ∃ b, bs[i]? = some b ∧ BrAt H p b := by
  have il : i < bs.length := by rw [← h.1]; exact (List.getElem?_eq_some_iff.mp e).1
  exact ⟨_, List.getElem?_eq_getElem il, h.2 i p _ e (List.getElem?_eq_getElem il)⟩
theorem BrsAt.snoc {H : Hp} {ps : List Addr} {bs : List Br} {p : Addr} {b : Br} (h : BrsAt H ps bs) (hb : BrAt H p b) : BrsAt H (ps ++ [p]) (bs ++ [b]) := by
  refine ⟨by rw [List.length_append, List.length_append, h.1]; rfl, fun i q c e1 e2 => ?_⟩
  by_cases l : i < ps.length
  · rw [List.getElem?_append_left l] at e1
    rw [List.getElem?_append_left (by rw [← h.1]; exact l)] at e2
    exact h.2 i q c e1 e2
  · rw [List.getElem?_append_right (by omega)] at e1
    rw [List.getElem?_append_right (by rw [← h.1]; omega), ← h.1] at e2
    obtain ⟨j, hj⟩ : ∃ j, i - ps.length = j := ⟨_, rfl⟩
    rw [hj] at e1 e2
    cases j with
    | zero => cases e1; cases e2; exact hb
    | succ j => cases e1
theorem BrsAt.nil {H : Hp} : BrsAt H [] [] := ⟨rfl, fun i p b h _ => by cases i <;> cases h⟩
def fsB (tg tb : Addr) : List (Str × V) := [("_goods", .ref tg), ("_barters", .ref tb)]
def fsC (tg tb dg : Addr) : List (Str × V) := [("_goods", .ref tg), ("_barters", .ref tb), ("_good_numbers", .ref dg)]
def spNames34 (C : Addr) : Sp := fun vs H Q _ => ∃ (x dx tb : Addr) (fs : List (Str × V)) (ps : List Addr) (bs : List Br), vs = [.ref x] ∧ H x = some (.ins C dx fs) ∧ fs.lookup ("_barters" : Str) = some (V.ref tb) ∧ H tb = some (.tup (ps.map V.ref)) ∧ BrsAt H ps bs ∧ bs.length ≤ 100 ∧
  ∀ (D : Addr) (H' : Hp), Same H H' → H D = none → H' D = some (.lst ((bs.map (·.1)).map V.str)) → Q (.ref D) H'
def spBarters34 (C : Addr) : Sp := fun vs H Q _ => ∃ (x : Addr) (gs : List Str) (bs : List Br), vs = [.ref x] ∧ BookH C H x gs bs ∧
  ∀ (D : Addr) (ps : List Addr) (H' : Hp), Same H H' → H D = none → H' D = some (.lst (ps.map V.ref)) → BrsAt H' ps bs → Q (.ref D) H'
def spInit34 (C : Addr) : Sp := fun vs H Q _ => ∃ (x g l dx : Addr) (ps : List Addr) (gs : List Str) (bs : List Br), vs = [.ref x, .ref g, .ref l] ∧ H x = some (.ins C dx []) ∧ H g = some (.lst (gs.map V.str)) ∧ H l = some (.lst (ps.map V.ref)) ∧ BrsAt H ps bs ∧ GoodBk gs bs ∧
  ∀ H', (∀ b u, b ≠ x → H b = some u → H' b = some u) → BookF C H H' x gs bs → Q .non H'
theorem kvN_take {xs : List Str} {i : Nat} {x : Str} (n : xs.Nodup) (e : xs[i]? = some x) : putK (kvN (xs.take i)) (Sum.inr x) (.int (i : Nat)) = kvN (xs.take (i + 1)) := by
  have hi := (List.getElem?_eq_some_iff.mp e).1
  have q := put_kvN (nodup_take n e)
  rw [take_snoc e, List.length_take, Nat.min_eq_left (by omega)] at q
  exact q
theorem kvN_len {xs : List Str} : (kvN xs).length = xs.length := by unfold kvN; rw [List.length_mapIdx]
section
variable {P : Program} {w : World} {K : PySem.W.Frag} {mg : Str → Option Value} {base : Heap}
theorem ok_Book_names (T : Tx K mg) : FnOk P w K mg base CX0 1 T.a_Book_names T.fd_Book_names ["self"] (spNames34 T.C_Book) := by
  refine T.F_Book_names.ok sc_Book_names (fun vs H Q E h => ?_) (fun cdv A outer st H vs Q E hr h => ?_)
  · obtain ⟨x, dx, tb, fs, ps, bs, rfl, _⟩ := h
    rfl
  obtain ⟨x, dx, tb, fs, ps, bs, rfl, hx, lk, ht, hb, bl, k⟩ := h
  refine ⟨_, ((pss_one (ps_ret (pe_lc (own := [("barter", 1)]) (by rfl) sc_Book_names.nd (pi_tup (pe_fld (pv 0) rfl)) (blkOk_by (own := [("barter", 1)]) (N := ["self", "barter"]) (sc := defScope s_Book_names) (by decide +kernel)) (fun _ _ _ _ _ => pg_name (i := 1) sc_Book_names.nd rfl (Or.inl rfl)) (fun _ _ _ _ _ => pts_nil) (fun _ _ _ _ _ => (pe_ix (show IxR _ (rIxT K) from ix_tup) (pv 1) pe_int (fun _ _ => rfl))))))), ?_⟩
  refine ⟨_, rfl, x, _, _, _, _, rfl, hx, T.cl_Book, T.na_Book_barters, lk, tb, rfl, ⟨_, SqT.of ht⟩, fun D hD => ?_⟩
  refine lc_tup (xs := ps.map V.ref) (Lc H D ((bs.map (·.1)).map V.str)) (Lc.zero hD) (fun i M _ z => SqT.of (z.1 _ _ ht)) (fun i y M hy z => ?_) (fun M z => ?_)
  · obtain ⟨p, hp, rfl⟩ := getM hy
    obtain ⟨b, hbi, a, e1, e2⟩ := hb.get hp
    refine ⟨rfl, _, rfl, p, _, _, _, rfl, rfl, SqT.of (z.1 _ _ e1), atI_nat (j := 0) rfl, ?_⟩
    exact Lc.lay hD z (mapM (mapM hbi)) (by rw [List.length_map, List.length_map]; omega)
  · have ⟨sM, eM⟩ := z.all (by rw [List.length_map, List.length_map, List.length_map]; exact hb.1)
    exact k D M sM hD eM
theorem ok_Book_barters (T : Tx K mg) : FnOk P w K mg base CX0 1 T.a_Book_barters T.fd_Book_barters ["self"] (spBarters34 T.C_Book) := by
  refine T.F_Book_barters.ok sc_Book_barters (fun vs H Q E h => ?_) (fun cdv A outer st H vs Q E hr h => ?_)
  · obtain ⟨x, gs, bs, rfl, _⟩ := h
    rfl
  obtain ⟨x, gs, bs, rfl, ⟨dx, tg, tb, dg, db, ps, h1, h2, h3, h4, h5, h6⟩, k⟩ := h
  refine ⟨_, ((pss_one (ps_ret (pe_callTy call_list_of (by rfl) T.n_list (by decide +kernel) (pa_cons (pe_fld (pv 0) rfl) pa_nil))))), ?_⟩
  refine ⟨_, rfl, x, _, _, _, .ref tb, rfl, h1, T.cl_Book, T.na_Book_barters, rfl, tb, _, rfl, .inr (SqT.of h3), fun D hD => ?_⟩
  have s := same_new hD (.lst (ps.map V.ref))
  exact k D ps _ s hD upd_same (h4.same s)
theorem ok_Book_init (T : Tx K mg) : FnOk P w K mg base CX0 5 T.a_Book_init T.fd_Book_init ["self", "goods", "barters"] (spInit34 T.C_Book) := by
  refine T.F_Book_init.ok sc_Book_init (fun vs H Q E h => ?_) (fun cdv A outer st H vs Q E hr h => ?_)
  · obtain ⟨x, g, l, dx, ps, gs, bs, rfl, _⟩ := h
    rfl
  obtain ⟨x, g, l, dx, ps, gs, bs, rfl, hx, hg, hl, hb, G, k⟩ := h
  have G_wrong_goods : FnOk P w K mg base CX0 2 T.a_wrong_goods T.fd_wrong_goods ["goods"] spWrongGoods := ok_wrong_goods T
  have hr_wrong_goods : Room 2 _ := hr.mono (by omega)
  have G_wrong_barters : FnOk P w K mg base CX0 4 T.a_wrong_barters T.fd_wrong_barters ["barters", "many"] spWrongBarters := ok_wrong_barters T
  have hr_wrong_barters : Room 4 _ := hr
  have G_Book_names : FnOk P w K mg base CX0 1 T.a_Book_names T.fd_Book_names ["self"] (spNames34 T.C_Book) := ok_Book_names T
  have hr_Book_names : Room 1 _ := hr.mono (by omega)
  refine ⟨_, ((pss_cons (ps_set (i := 3) sc_Book_init.nd rfl (Or.inl rfl) (pe_call G_wrong_goods hr_wrong_goods rfl T.m_wrong_goods T.F_wrong_goods.kp T.b_wrong_goods .nil pass0 (pa_cons (pv 1) pa_nil)))
      (pss_cons (ps_if (pt_cmpR op_isN (pv 3) pe_non (nomark _))
        (pss_one (ps_set (i := 3) sc_Book_init.nd rfl (Or.inl rfl) (pe_call G_wrong_barters hr_wrong_barters rfl T.m_wrong_barters T.F_wrong_barters.kp T.b_wrong_barters .nil pass0 (pa_cons (pv 2) (pa_cons (pe_callB call_len_seq (by rfl) T.n_len (by decide +kernel) (pa_cons (pv 1) pa_nil)) pa_nil)))))
        pss_nil)
      (pss_cons (ps_if (pt_cmpR op_notN (pv 3) pe_non (nomark _))
        (pss_one (ps_never))
        pss_nil)
      (pss_cons (ps_fld (pv 0) (pe_callTy call_tuple_of (by rfl) T.n_tuple (by decide +kernel) (pa_cons (pv 1) pa_nil)) rfl)
      (pss_cons (ps_fld (pv 0) (pe_callTy call_tuple_of (by rfl) T.n_tuple (by decide +kernel) (pa_cons (pe_lc (own := [("name", 7), ("row", 8)]) (by rfl) sc_Book_init.nd (pi_list (pv 2)) (blkOk_by (own := [("name", 7), ("row", 8)]) (N := ["self", "goods", "barters", "path", "j", "good", "k", "name", "row"]) (sc := defScope s_Book_init) (by decide +kernel)) (fun _ _ _ _ _ => show PG _ _ (gTup K 2 (gCons (gName 7) (gCons (gName 8) gNil))) from (pg_tup rfl (pgs_cons (pg_name (i := 7) sc_Book_init.nd rfl (Or.inl rfl)) (pgs_cons (pg_name (i := 8) sc_Book_init.nd rfl (Or.inl rfl)) pgs_nil)))) (fun _ _ _ _ _ => pts_nil) (fun _ _ _ _ _ => (pe_tup (pa_cons (pv 7) (pa_cons (pe_callTy (show CallR _ (.type "tuple") (rTupOf K) from call_tupK) (by rfl) T.n_tuple (by decide +kernel) (pa_cons (pv 8) pa_nil)) pa_nil))))) pa_nil)) rfl)
      (pss_cons (ps_fld (pv 0) (pe_dc (own := [("j", 4), ("good", 5)]) (by rfl) sc_Book_init.nd (pi_enumM (by rfl) T.n_enumerate (pa_cons (pe_fld (pv 0) rfl) pa_nil)) (blkOk_by (own := [("j", 4), ("good", 5)]) (N := ["self", "goods", "barters", "path", "j", "good", "k", "name", "row"]) (sc := defScope s_Book_init) (by decide +kernel)) (fun _ _ _ _ _ => show PG _ _ (gTup K 2 (gCons (gName 4) (gCons (gName 5) gNil))) from (pg_tup rfl (pgs_cons (pg_name (i := 4) sc_Book_init.nd rfl (Or.inl rfl)) (pgs_cons (pg_name (i := 5) sc_Book_init.nd rfl (Or.inl rfl)) pgs_nil)))) (fun _ _ _ _ _ => pts_nil) (fun _ _ _ _ _ => (pv 5)) (fun _ _ _ _ _ => (pv 4))) rfl)
      (pss_one (ps_fld (pv 0) (pe_dc (own := [("k", 6), ("name", 7)]) (by rfl) sc_Book_init.nd (pi_enumM (by rfl) T.n_enumerate (pa_cons (pe_meth0 (pv 0) T.cl_Book T.me_Book_names G_Book_names hr_Book_names T.b_Book_names .nil pass0) pa_nil)) (blkOk_by (own := [("k", 6), ("name", 7)]) (N := ["self", "goods", "barters", "path", "j", "good", "k", "name", "row"]) (sc := defScope s_Book_init) (by decide +kernel)) (fun _ _ _ _ _ => show PG _ _ (gTup K 2 (gCons (gName 6) (gCons (gName 7) gNil))) from (pg_tup rfl (pgs_cons (pg_name (i := 6) sc_Book_init.nd rfl (Or.inl rfl)) (pgs_cons (pg_name (i := 7) sc_Book_init.nd rfl (Or.inl rfl)) pgs_nil)))) (fun _ _ _ _ _ => pts_nil) (fun _ _ _ _ _ => (pv 7)) (fun _ _ _ _ _ => (pv 6))) rfl))))))))), ?_⟩
  refine ⟨_, rfl, g, gs, rfl, hg, G.gw, G.gn, G.gl, fun H1 s1 => ?_⟩
  refine ⟨_, rfl, rfl, _, rfl, iteT ?_⟩
  refine ⟨_, rfl, _, rfl, g, _, rfl, .inl (SqL.of (s1 _ _ hg)), l, ps, gs, bs, (by rw [List.length_map] <;> rfl), s1 _ _ hl, hb.same s1, G, fun H2 s2 => ?_⟩
  refine ⟨_, rfl, rfl, _, rfl, iteF ?_⟩
  have s12 := s1.trans s2
  refine ⟨_, rfl, g, _, rfl, .inl ⟨SqL.of (s12 _ _ hg), fun tg htg => ⟨_, rfl, x, T.C_Book, dx, [], rfl, same_new htg _ _ _ (s12 _ _ hx), T.cl_Book, T.na_Book_goods, by decide, ?_⟩⟩⟩
  have x1 := same_new htg (.tup (gs.map V.str)) _ _ (s12 _ _ hx)
  have sg := same_new htg (.tup (gs.map V.str))
  -- outside x all stays
  have fr : ∀ {M : Hp} {a : Addr}, (∀ b u, b ≠ x → H b = some u → M b = some u) → a ≠ x → M a = none → H a = none := fun {M a} g1 n e => by
    cases q : H a with
    | none => rfl
    | some u => rw [g1 a u n q] at e; cases e
  have go : ∀ {M M' : Hp}, (∀ b u, b ≠ x → H b = some u → M b = some u) → Same M M' → ∀ b u, b ≠ x → H b = some u → M' b = some u := fun g1 e b u n q => e _ _ (g1 b u n q)
  have goX : ∀ {M : Hp} {o : HO}, (∀ b u, b ≠ x → H b = some u → M b = some u) → ∀ b u, b ≠ x → H b = some u → (L2.upd M x o) b = some u := fun g1 b u n q => by rw [upd_ne n]; exact g1 b u n q
  have nx : ∀ {M : Hp} {a : Addr} {xs : List V} {fs : List (Str × V)}, M x = some (.ins T.C_Book dx fs) → M a = some (.tup xs) → a ≠ x := fun e1 e2 e => by rw [e, e1] at e2; cases e2
  have nxd : ∀ {M : Hp} {a : Addr} {kvs : List (Key × V)} {fs : List (Str × V)}, M x = some (.ins T.C_Book dx fs) → M a = some (.dK kvs) → a ≠ x := fun e1 e2 e => by rw [e, e1] at e2; cases e2
  have nxl : ∀ {M : Hp} {a : Addr} {xs : List V} {fs : List (Str × V)}, M x = some (.ins T.C_Book dx fs) → M a = some (.lst xs) → a ≠ x := fun e1 e2 e => by rw [e, e1] at e2; cases e2
  have gA := goX (o := .ins T.C_Book dx (putF "_goods" (.ref tg) [])) (go (go (fun b u _ q => q) s12) sg)
  have eA : (L2.upd (L2.upd H2 tg (.tup (gs.map V.str))) x (.ins T.C_Book dx (putF "_goods" (.ref tg) []))) x = some (.ins T.C_Book dx [("_goods", .ref tg)]) := upd_same
  have tA : (L2.upd (L2.upd H2 tg (.tup (gs.map V.str))) x (.ins T.C_Book dx (putF "_goods" (.ref tg) []))) tg = some (.tup (gs.map V.str)) := by rw [upd_ne (nx x1 upd_same)]; exact upd_same
  generalize L2.upd (L2.upd H2 tg (.tup (gs.map V.str))) x (.ins T.C_Book dx (putF "_goods" (.ref tg) [])) = MA at gA eA tA ⊢
  have hbA : BrsAt MA ps bs := ⟨hb.1, fun i p b h1 h2 => by
    obtain ⟨a, q1, q2⟩ := hb.2 i p b h1 h2
    exact ⟨a, gA _ _ (nx hx q1) q1, gA _ _ (nx hx q2) q2⟩⟩
  have hlA := gA _ _ (nxl hx hl) hl
  refine ⟨_, rfl, l, rfl, ⟨_, SqL.of hlA⟩, fun D hD => ?_⟩
  refine lc_list (xs := ps.map V.ref) (fun i M => ∃ qs : List Addr, Same MA M ∧ M D = some (.lst (qs.map V.ref)) ∧ BrsAt M qs (bs.take i)) ⟨[], same_new hD _, upd_same, BrsAt.nil⟩ (fun i M _ ⟨_, z, _⟩ => SqL.of (z _ _ hlA)) (fun i y M hy z => ?_) (fun M z => ?_)
  · obtain ⟨p, hp, rfl⟩ := getM hy
    obtain ⟨b, hbi, a, e1, e2⟩ := hbA.get hp
    obtain ⟨qs, sM, eM, bM⟩ := z
    refine ⟨p, _, rfl, SqT.of (sM _ _ e1), rfl, _, _, rfl, _, _, rfl, rfl, rfl, ?_⟩
    refine ⟨_, rfl, _, rfl, a, _, rfl, .inr ⟨SqT.of (sM _ _ e2), (by show 2 ≤ sizeLine; decide), fun q hq => ?_⟩⟩
    have sq := same_new hq (.tup [.str b.1, .ref a])
    have lq : qs.length = (bs.take i).length := bM.1
    have bl := G.bl
    refine ⟨_, sq _ _ eM, ?_, qs ++ [q], same_put hD (sM.trans sq), ?_, ?_⟩
    · rw [List.length_map, lq, List.length_take]; exact small1000 (by omega)
    · rw [upd_same, List.map_append]; rfl
    · rw [← take_snoc hbi]
      have dq : ∀ u, (∃ xs, u = HO.tup xs) → ∀ c, (L2.upd M q (.tup [.str b.1, .ref a])) c = some u → (L2.upd (L2.upd M q (.tup [.str b.1, .ref a])) D (.lst (qs.map V.ref ++ [.ref q]))) c = some u := fun u ⟨xs, eu⟩ c e => by
        rw [upd_ne ?_]
        · exact e
        · rintro rfl
          rw [sq _ _ eM, eu] at e
          cases e
      have keep : ∀ {p : Addr} {b' : Br}, BrAt (L2.upd M q (.tup [.str b.1, .ref a])) p b' → BrAt (L2.upd (L2.upd M q (.tup [.str b.1, .ref a])) D (.lst (qs.map V.ref ++ [.ref q]))) p b' := fun ⟨a', f1, f2⟩ => ⟨a', dq _ ⟨_, rfl⟩ _ f1, dq _ ⟨_, rfl⟩ _ f2⟩
      refine BrsAt.snoc ⟨bM.1, fun j p' b' h1 h2 => keep ((bM.2 j p' b' h1 h2).same sq)⟩ (keep ⟨a, upd_same, sq _ _ (sM _ _ e2)⟩)
  obtain ⟨qs, sM, eM, bM⟩ := z
  have lps : (ps.map V.ref).length = bs.length := by rw [List.length_map]; exact hb.1
  rw [lps, List.take_length] at bM
  refine ⟨D, _, rfl, .inl ⟨SqL.of eM, fun tb htb => ?_⟩⟩
  have sb := (sM.trans (same_new htb (.tup (qs.map V.ref))))
  refine ⟨_, rfl, x, T.C_Book, dx, _, rfl, sb _ _ eA, T.cl_Book, T.na_Book_barters, by show 1 < 1000; decide, ?_⟩
  have fB : putF "_barters" (V.ref tb) [("_goods", V.ref tg)] = fsB tg tb := rfl
  rw [fB]
  have gB := goX (o := .ins T.C_Book dx (fsB tg tb)) (go gA sb)
  have nb : tb ≠ x := nx (sb _ _ eA) (by exact upd_same)
  have ng : tg ≠ x := nx eA tA
  have eB : (L2.upd (L2.upd M tb (.tup (qs.map V.ref))) x (.ins T.C_Book dx (fsB tg tb))) x = some (.ins T.C_Book dx (fsB tg tb)) := upd_same
  have tgB : (L2.upd (L2.upd M tb (.tup (qs.map V.ref))) x (.ins T.C_Book dx (fsB tg tb))) tg = some (.tup (gs.map V.str)) := by rw [upd_ne ng]; exact sb _ _ tA
  have tbB : (L2.upd (L2.upd M tb (.tup (qs.map V.ref))) x (.ins T.C_Book dx (fsB tg tb))) tb = some (.tup (qs.map V.ref)) := by rw [upd_ne nb]; exact upd_same
  have bB : BrsAt (L2.upd (L2.upd M tb (.tup (qs.map V.ref))) x (.ins T.C_Book dx (fsB tg tb))) qs bs := ⟨bM.1, fun i p b h1 h2 => by
    obtain ⟨a, q1, q2⟩ := (bM.2 i p b h1 h2).same (same_new htb (.tup (qs.map V.ref)))
    exact ⟨a, by rw [upd_ne (nx (sb _ _ eA) q1)]; exact q1, by rw [upd_ne (nx (sb _ _ eA) q2)]; exact q2⟩⟩
  generalize L2.upd (L2.upd M tb (.tup (qs.map V.ref))) x (.ins T.C_Book dx (fsB tg tb)) = MB at gB eB tgB tbB bB ⊢
  have gl := G.gl
  have bl := G.bl
  -- the numbers of the goods
  refine ⟨_, rfl, x, _, _, _, .ref tg, rfl, eB, T.cl_Book, T.na_Book_goods, rfl, true, tg, gs.map V.str, rfl, SqT.of tgB, fun dg hdg => ?_⟩
  refine dc_it walk_enumM (fun i M => Same MB M ∧ M dg = some (.dK (kvN (gs.take i)))) ⟨same_new hdg _, upd_same⟩ (fun i M _ z => SqT.of (z.1 _ _ tgB)) (fun i y M M' hi z y' => ?_) (fun MC z => ?_)
  · obtain ⟨C, u, v, rfl, nC, rfl, eu, ev⟩ := y'
    obtain ⟨good, hx', rfl⟩ := getM ev
    cases eu
    obtain ⟨sM', eM'⟩ := z
    have sC := same_new nC (.tup [.int (i : Nat), .str good])
    refine ⟨C, _, rfl, SqT.of upd_same, rfl, _, _, rfl, _, _, rfl, rfl, rfl, ?_⟩
    refine ⟨_, rfl, _, rfl, _, Sum.inr good, rfl, sC _ _ eM', ?_, same_put hdg (sM'.trans sC), ?_⟩
    · rw [kvN_len, List.length_take]; exact small1000 (by omega)
    · rw [upd_same, kvN_take G.gn hx']
  obtain ⟨sC, eC⟩ := z
  have lgs : (gs.map V.str).length = gs.length := List.length_map _
  rw [lgs, List.take_length] at eC
  refine ⟨_, rfl, x, T.C_Book, dx, _, rfl, sC _ _ eB, T.cl_Book, T.na_Book_good_numbers, by show 2 < 1000; decide, ?_⟩
  have fC : putF "_good_numbers" (V.ref dg) (fsB tg tb) = fsC tg tb dg := rfl
  rw [fC]
  have gC := goX (o := .ins T.C_Book dx (fsC tg tb dg)) (go gB sC)
  have xC := sC _ _ eB
  have ndg : dg ≠ x := nxd xC eC
  have eD : (L2.upd MC x (.ins T.C_Book dx (fsC tg tb dg))) x = some (.ins T.C_Book dx (fsC tg tb dg)) := upd_same
  have tgD : (L2.upd MC x (.ins T.C_Book dx (fsC tg tb dg))) tg = some (.tup (gs.map V.str)) := by rw [upd_ne ng]; exact sC _ _ tgB
  have tbD : (L2.upd MC x (.ins T.C_Book dx (fsC tg tb dg))) tb = some (.tup (qs.map V.ref)) := by rw [upd_ne nb]; exact sC _ _ tbB
  have dgD : (L2.upd MC x (.ins T.C_Book dx (fsC tg tb dg))) dg = some (.dK (kvN gs)) := by rw [upd_ne ndg]; exact eC
  have bD : BrsAt (L2.upd MC x (.ins T.C_Book dx (fsC tg tb dg))) qs bs := ⟨bB.1, fun i p b h1 h2 => by
    obtain ⟨a, q1, q2⟩ := (bB.2 i p b h1 h2).same sC
    exact ⟨a, by rw [upd_ne (nx xC q1)]; exact q1, by rw [upd_ne (nx xC q2)]; exact q2⟩⟩
  generalize L2.upd MC x (.ins T.C_Book dx (fsC tg tb dg)) = MD at gC eD tgD tbD dgD bD ⊢
  -- the numbers of the barters
  refine ⟨_, rfl, x, _, _, rfl, eD, rfl, x, dx, tb, _, qs, bs, rfl, eD, rfl, tbD, bD, bl, fun nl ME sE hnl enl => ⟨false, nl, (bs.map (·.1)).map V.str, rfl, SqL.of enl, fun db hdb => ?_⟩⟩
  refine dc_it walk_enumM (fun i M => Same ME M ∧ M db = some (.dK (kvN ((bs.map (·.1)).take i)))) ⟨same_new hdb _, upd_same⟩ (fun i M _ z => SqL.of (z.1 _ _ enl)) (fun i y M M' hi z y' => ?_) (fun MF z => ?_)
  · obtain ⟨C, u, v, rfl, nC, rfl, eu, ev⟩ := y'
    obtain ⟨name, hx', rfl⟩ := getM ev
    cases eu
    obtain ⟨sM', eM'⟩ := z
    have sC := same_new nC (.tup [.int (i : Nat), .str name])
    refine ⟨C, _, rfl, SqT.of upd_same, rfl, _, _, rfl, _, _, rfl, rfl, rfl, ?_⟩
    refine ⟨_, rfl, _, rfl, _, Sum.inr name, rfl, sC _ _ eM', ?_, same_put hdb (sM'.trans sC), ?_⟩
    · rw [kvN_len, List.length_take, List.length_map]; exact small1000 (by omega)
    · rw [upd_same, kvN_take G.bn hx']
  obtain ⟨sF, eF⟩ := z
  rw [show ((bs.map (·.1)).map V.str).length = (bs.map (·.1)).length from List.length_map _, List.take_length] at eF
  have sEF := sE.trans sF
  refine ⟨_, rfl, x, T.C_Book, dx, _, rfl, sEF _ _ eD, T.cl_Book, T.na_Book_barter_numbers, by show 3 < 1000; decide, ?_⟩
  have xF := sEF _ _ eD
  refine k _ (goX (go gC sEF)) ⟨dx, tg, tb, dg, db, qs, fr gB ndg hdg, fr gC (nxd xF eF) (sE.free hdb), upd_same, ?_, ?_, ⟨bD.1, fun i p b h1 h2 => ?_⟩, ?_, ?_⟩
  · rw [upd_ne ng]; exact sEF _ _ tgD
  · rw [upd_ne nb]; exact sEF _ _ tbD
  · obtain ⟨a, q1, q2⟩ := (bD.2 i p b h1 h2).same sEF
    exact ⟨a, by rw [upd_ne (nx xF q1)]; exact q1, by rw [upd_ne (nx xF q2)]; exact q2⟩
  · rw [upd_ne ndg]; exact sEF _ _ dgD
  · rw [upd_ne (nxd xF eF)]; exact eF
end
end My

namespace My
open PySem PySem.Spec PyProof.Rows L2
/-- tuples stay -/
def KT (M M' : Hp) : Prop := ∀ b xs, M b = some (.tup xs) → M' b = some (.tup xs)
theorem KT.refl {M : Hp} : KT M M := fun _ _ h => h
theorem KT.of {M M' : Hp} (h : Same M M') : KT M M' := fun b xs e => h _ _ e
theorem KT.trans {M M' M2 : Hp} (h : KT M M') (g : KT M' M2) : KT M M2 := fun b xs e => g _ _ (h _ _ e)
theorem KT.upd {M : Hp} {D : Addr} {ys : List V} {o : HO} (h : M D = some (.lst ys)) : KT M (L2.upd M D o) := fun b xs e => by
  rw [upd_ne (fun z => by rw [z, h] at e; cases e)]; exact e
theorem BrAt.kt {H H' : Hp} (e : KT H H') {p : Addr} {b : Br} (h : BrAt H p b) : BrAt H' p b := by
  obtain ⟨a, h1, h2⟩ := h
  exact ⟨a, e _ _ h1, e _ _ h2⟩
theorem BrsAt.kt {H H' : Hp} (e : KT H H') {ps : List Addr} {bs : List Br} (h : BrsAt H ps bs) : BrsAt H' ps bs := ⟨h.1, fun i p b h1 h2 => (h.2 i p b h1 h2).kt e⟩
/-- lists of things at addresses -/
def AllAt {α : Type} (R : Addr → α → Prop) (ps : List Addr) (xs : List α) : Prop := ps.length = xs.length ∧ ∀ (i : Nat) (p : Addr) (x : α), ps[i]? = some p → xs[i]? = some x → R p x
theorem AllAt.nil {α : Type} {R : Addr → α → Prop} : AllAt R [] [] := ⟨rfl, fun i p b h _ => by cases i <;> cases h⟩
theorem AllAt.snoc {α : Type} {R : Addr → α → Prop} {ps : List Addr} {xs : List α} {p : Addr} {x : α} (h : AllAt R ps xs) (hb : R p x) : AllAt R (ps ++ [p]) (xs ++ [x]) := by
  refine ⟨by rw [List.length_append, List.length_append, h.1]; rfl, fun i q c e1 e2 => ?_⟩
  by_cases l : i < ps.length
  · rw [List.getElem?_append_left l] at e1
    rw [List.getElem?_append_left (by rw [← h.1]; exact l)] at e2
    exact h.2 i q c e1 e2
  · rw [List.getElem?_append_right (by omega)] at e1
    rw [List.getElem?_append_right (by rw [← h.1]; omega), ← h.1] at e2
    obtain ⟨j, hj⟩ : ∃ j, i - ps.length = j := ⟨_, rfl⟩
    rw [hj] at e1 e2
    cases j with
    | zero => cases e1; cases e2; exact hb
    | succ j => cases e1
theorem AllAt.imp {α : Type} {R R' : Addr → α → Prop} {ps : List Addr} {xs : List α} (h : AllAt R ps xs) (f : ∀ p x, R p x → R' p x) : AllAt R' ps xs := ⟨h.1, fun i p x h1 h2 => f p x (h.2 i p x h1 h2)⟩
theorem AllAt.get {α : Type} {R : Addr → α → Prop} {ps : List Addr} {xs : List α} (h : AllAt R ps xs) {i : Nat} {p : Addr} (e : ps[i]? = some p) : ∃ x, xs[i]? = some x ∧ R p x := by
  have il : i < xs.length := by rw [← h.1]; exact (List.getElem?_eq_some_iff.mp e).1
  exact ⟨_, List.getElem?_eq_getElem il, h.2 i p _ e (List.getElem?_eq_getElem il)⟩
/-! ### deeds -/
abbrev Dd := Str × Int
def DeedAt (H : Hp) (d : Addr) (q : Dd) : Prop := H d = some (.tup [.str q.1, .int q.2])
def StepAt (H : Hp) (s : Addr) (q : Dd) : Prop := ∃ d b, H s = some (.tup [.ref d, .ref b]) ∧ DeedAt H d q
theorem StepAt.kt {H H' : Hp} (e : KT H H') {s : Addr} {q : Dd} (h : StepAt H s q) : StepAt H' s q := by
  obtain ⟨d, b, h1, h2⟩ := h
  exact ⟨d, b, e _ _ h1, e _ _ h2⟩
def waysN (j : Nat) : List Int := ([1, -1] : List Int).take j
def dueW (st : List Int) (b : Br) (ws : List Int) : List Dd := (ws.filter fun w => enoughB (combR 1 st w b.2)).map fun w => (b.1, w)
def dueL (st : List Int) (bs : List Br) : List Dd := bs.flatMap fun b => dueW st b [1, -1]
theorem dueW_len (st : List Int) (b : Br) (ws : List Int) : (dueW st b ws).length ≤ ws.length := by unfold dueW; rw [List.length_map]; exact List.length_filter_le _ _
theorem dueL_len (st : List Int) (bs : List Br) : (dueL st bs).length ≤ 2 * bs.length := by
  unfold dueL
  induction bs with
  | nil => exact Nat.le_refl _
  | cons b r ih =>
    rw [List.flatMap_cons, List.length_append, List.length_cons]
    have := dueW_len st b [1, -1]
    have h2 : ([1, -1] : List Int).length = 2 := rfl
    omega
theorem dueL_snoc (st : List Int) (bs : List Br) (b : Br) : dueL st (bs ++ [b]) = dueL st bs ++ dueW st b [1, -1] := by
  unfold dueL
  rw [List.flatMap_append, List.flatMap_cons, List.flatMap_nil, List.append_nil]
theorem dueW_snoc (st : List Int) (b : Br) (ws : List Int) (w : Int) : dueW st b (ws ++ [w]) = dueW st b ws ++ (if enoughB (combR 1 st w b.2) = true then [(b.1, w)] else []) := by
  unfold dueW
  rw [List.filter_append, List.map_append, List.filter_cons, List.filter_nil]
  split <;> rfl
end My

namespace My
open PySem PySem.Spec PyProof.Rows L2
/-- len(..) over the frozen part K -/
def rLenK (K : PySem.W.Frag) : List V → Hp → VK → Prop := fun xs H Q => ∃ p ys, xs = [.ref p] ∧ (SqL K H p ys ∨ SqT K H p ys) ∧ Q (.int (ys.length : Nat)) H
theorem call_lenK {X : Cx} : CallR X (.builtin "len") (rLenK X.K) := call_len_seq
def spMixed : Sp := fun vs H Q _ => ∃ (s c a : Addr) (xs : List V), vs = [.ref s, .ref a] ∧ Src H s c ∧ H a = some (.lst xs) ∧ xs.length ≤ 1000 ∧
  ∀ (D : Addr) (ys : List V) (H' : Hp), Go s c H H' → H D = none → H' D = some (.lst ys) → ys.Perm xs → Q (.ref D) H'
theorem perm_erase {xs : List V} {k : Nat} {y : V} (h : xs[k]? = some y) : (y :: xs.eraseIdx k).Perm xs := by
  induction xs generalizing k with
  | nil => cases h
  | cons a r ih =>
    cases k with
    | zero => cases h; exact List.Perm.refl _
    | succ k => exact (List.Perm.swap a y _).trans (List.Perm.cons a (ih h))
/-- the two figures of a drawn name -/
def idxS (x : Str) : Int := match x.cps.toList with
  | _ :: a :: b :: _ => ((a : Int) - 48) * 10 + ((b : Int) - 48)
  | _ => 1000
def spNames2 : Sp := fun vs H Q _ => ∃ (s c : Addr) (n : Nat), vs = [.ref s, .int (n : Nat)] ∧ Src H s c ∧ n ≤ 10 ∧
  ∀ (a : Addr) (xs : List Str) (H' : Hp), Go s c H H' → H a = none → H' a = some (.lst (xs.map V.str)) → (∀ x ∈ xs, wordD (.str x) = true) → xs.length = n → xs.Nodup → (∀ x ∈ xs, idxS x < 100) → Q (.ref a) H'
theorem Src.upd6 {M : Hp} {s c D : Addr} {o : HO} (S : Src M s c) (n : D ≠ s ∧ D ≠ c) : Src (L2.upd M D o) s c := by
  obtain ⟨l, m, t, ns, h⟩ := S
  exact ⟨l, m, t, ns, by rw [upd_ne n.1.symm]; exact h.hs, by rw [upd_ne n.2.symm]; exact h.hc, h.l0, h.m0, h.m1, h.t0, h.n0, h.len⟩
/-- the last two figures of 100 + m -/
def twoS (m : Int) : Str := cutS (toString (100 + m)) (some 1) none
theorem two_ok (m : Int) (h0 : 0 ≤ m) (h1 : m < 100) : (twoS m).length = 2 ∧ (twoS m).cps.toList.all isAl = true ∧ (toString (100 + m) : Str).length ≤ 100 ∧ (100 + m).natAbs.log2 < 1920 := by
  have q : ∀ k ∈ List.range 100, (twoS (k : Nat)).length = 2 ∧ (twoS (k : Nat)).cps.toList.all isAl = true ∧ (toString (100 + ((k : Nat) : Int)) : Str).length ≤ 100 ∧ (100 + ((k : Nat) : Int)).natAbs.log2 < 1920 := by decide +kernel
  obtain ⟨k, rfl⟩ : ∃ k : Nat, m = (k : Int) := ⟨m.toNat, by omega⟩
  exact q k (List.mem_range.mpr (by omega))
def tailsV : List V := [.str "", .str "", .str "", .str "k", .str "kkkkkkkkk"]
theorem tails_ok {v : V} (h : v ∈ tailsV) : ∃ t : Str, v = .str t ∧ t.length ≤ 9 ∧ t.cps.toList.all isAl = true := by
  simp only [tailsV, List.mem_cons, List.not_mem_nil, or_false] at h
  rcases h with rfl | rfl | rfl | rfl | rfl <;> exact ⟨_, rfl, by decide +kernel, by decide +kernel⟩
theorem len_app (a b : Str) : (a ++ b).length = a.length + b.length := by
  show (a.cps ++ b.cps).size = a.cps.size + b.cps.size
  rw [Array.size_append]
theorem name_ok {c : Nat} {d t : Str} (hc : inS LTR c = true) (d2 : d.length = 2) (da : d.cps.toList.all isAl = true) (t9 : t.length ≤ 9) (ta : t.cps.toList.all isAl = true) : wordD (.str ((⟨#[c]⟩ : Str) ++ d ++ t)) = true := by
  have e : ((⟨#[c]⟩ : Str) ++ d ++ t).cps.toList = c :: (d.cps.toList ++ t.cps.toList) := by
    show (#[c] ++ d.cps ++ t.cps).toList = _
    simp
  have l : ((⟨#[c]⟩ : Str) ++ d ++ t).length ≤ 12 := by
    rw [len_app, len_app, d2]
    show 1 + 2 + t.length ≤ 12
    omega
  have al : isAl c = true := by unfold isAl; rw [hc]; rfl
  show (decide (((⟨#[c]⟩ : Str) ++ d ++ t).length ≤ 12) && (match ((⟨#[c]⟩ : Str) ++ d ++ t).cps.toList with
    | [] => false
    | c :: r => inS LTR c && (c :: r).all isAl)) = true
  rw [decide_eq_true l, e]
  show (true && (inS LTR c && (c :: (d.cps.toList ++ t.cps.toList)).all isAl)) = true
  rw [hc, List.all_cons, al, List.all_append, da, ta]
  rfl
theorem idx_two (m : Int) (h0 : 0 ≤ m) (h1 : m < 100) : ∃ a b, (twoS m).cps.toList = [a, b] ∧ ((a : Int) - 48) * 10 + ((b : Int) - 48) = m := by
  have q : ∀ k ∈ List.range 100, (match (twoS ((k : Nat) : Int)).cps.toList with
    | [a, b] => decide (((a : Int) - 48) * 10 + ((b : Int) - 48) = ((k : Nat) : Int))
    | _ => false) = true := by decide +kernel
  obtain ⟨k, rfl⟩ : ∃ k : Nat, m = (k : Int) := ⟨m.toNat, by omega⟩
  have z := q k (List.mem_range.mpr (by omega))
  cases e : (twoS ((k : Nat) : Int)).cps.toList with
  | nil => rw [e] at z; cases z
  | cons a r =>
    cases r with
    | nil => rw [e] at z; cases z
    | cons b r2 =>
      cases r2 with
      | nil => rw [e] at z; exact ⟨a, b, rfl, of_decide_eq_true z⟩
      | cons _ _ => rw [e] at z; cases z
theorem idx_name {c : Nat} {t : Str} (m : Int) (h0 : 0 ≤ m) (h1 : m < 100) : idxS ((⟨#[c]⟩ : Str) ++ twoS m ++ t) = m := by
  obtain ⟨a, b, e, q⟩ := idx_two m h0 h1
  have e2 : ((⟨#[c]⟩ : Str) ++ twoS m ++ t).cps.toList = c :: a :: b :: t.cps.toList := by
    have : ((⟨#[c]⟩ : Str) ++ twoS m ++ t).cps.toList = c :: ((twoS m).cps.toList ++ t.cps.toList) := by
      show (#[c] ++ (twoS m).cps ++ t.cps).toList = _
      simp
    rw [this, e]; rfl
  unfold idxS
  rw [e2]
  exact q
theorem idx_nodup {xs : List Str} {n : Nat} {sh : Int} (hn : n ≤ 10) (l : xs.length = n) (ix : ∀ (j : Nat) (x : Str), xs[j]? = some x → idxS x = (sh + 37 * (0 + (j : Int))) % 100) : xs.Nodup := by
  rw [List.nodup_iff_pairwise_ne, List.pairwise_iff_getElem]
  intro i j hi hj lt e
  have a := ix i _ (List.getElem?_eq_getElem hi)
  have b := ix j _ (List.getElem?_eq_getElem hj)
  rw [e, b] at a
  omega
section
variable {P : Program} {w : World} {K : PySem.W.Frag} {mg : Str → Option Value} {base : Heap}
theorem ok_names (T : Tx K mg) : FnOk P w K mg base CX0 2 T.a_law_names T.fd_law_names ["_law_source_here", "_law_many"] spNames2 := by
  refine T.F_law_names.ok sc_law_names (fun vs H Q E h => ?_) (fun cdv A outer st H vs Q E hr h => ?_)
  · obtain ⟨s, c, n, rfl, _⟩ := h
    rfl
  obtain ⟨s, c, n, rfl, hS, hn, k⟩ := h
  have G_law_pick : FnOk P w K mg base CX0 1 T.a_law_pick T.fd_law_pick ["_law_source_here", "_law_many"] spPick := ok_pick T
  have hr_law_pick : Room 1 _ := hr
  refine ⟨_, ((pss_cons (ps_par3 (i := 2) (j := 3) (l := 4) (by rfl) sc_law_names.nd rfl rfl rfl (by decide) (by decide) (by decide) rfl rfl rfl (pa_cons (pe_call G_law_pick hr_law_pick rfl T.m_law_pick T.F_law_pick.kp T.b_law_pick .nil pass0 (pa_cons (pv 0) (pa_cons pe_int pa_nil))) (pa_cons (pe_lst pa_nil) (pa_cons (pe_lst (pa_cons pe_str (pa_cons pe_str (pa_cons pe_str (pa_cons pe_str (pa_cons pe_str pa_nil)))))) pa_nil))) (by rfl))
      (pss_cons (ps_for PassesOwn.never rfl (pi_range1 rfl T.n_range (pa_cons (pv 1) pa_nil)) (pg_name (i := 5) sc_law_names.nd rfl (Or.inl rfl))
        (pss_cons (ps_set (i := 6) sc_law_names.nd rfl (Or.inl rfl) (pe_ix ix_str pe_str (pe_call G_law_pick hr_law_pick rfl T.m_law_pick T.F_law_pick.kp T.b_law_pick .nil pass0 (pa_cons (pv 0) (pa_cons pe_int pa_nil))) (fun _ _ => rfl)))
      (pss_one (ps_expr (pe_bm PySem.F.plainAttrs_list PySem.F.slot_list_append PySem.F.type_list_append mt_append (pv 3) (pa_cons (pe_op op_add_str (pe_op op_add_str (pv 6) (pe_slice sl_str (pe_callTy call_str_int (by rfl) T.n_str (by decide +kernel) (pa_cons (pe_op op_add pe_int (pe_op op_mod (pe_callTy call_int1 (by rfl) T.n_int (by decide +kernel) (pa_cons (pe_op op_add (pv 2) (pe_op op_mul pe_int (pv 5))) pa_nil)) pe_int)) pa_nil)) (po_some pe_int) po_none)) (pe_ix (show IxR _ (rIxL K) from ix_list) (pv 4) (pe_call G_law_pick hr_law_pick rfl T.m_law_pick T.F_law_pick.kp T.b_law_pick .nil pass0 (pa_cons (pv 0) (pa_cons pe_int pa_nil))) (fun _ _ => rfl))) pa_nil))))))
      (pss_one (ps_ret (pv 3)))))), ?_⟩
  refine ⟨_, rfl, s, c, 100, rfl, hS, by decide, by decide, fun sh H1 sh0 sh1 g1 => ⟨Nat.zero_le _, fun D hD => ⟨(by show 5 ≤ sizeLine; decide), fun tl htl => ⟨_, _, _, rfl, ?_⟩⟩⟩⟩
  have nD := g1.src.ne_none hD
  have s2 := same_new hD (.lst [])
  have nT := (g1.src.same s2).ne_none htl
  have s3 := same_new htl (.lst tailsV)
  have nDT : D ≠ tl := ne_of_none upd_same htl
  have g3 : Go s c H1 _ := Go.of g1.src (s2.trans s3)
  refine ⟨_, rfl, n, rfl, by omega, by omega, ?_⟩
  refine for_range (lo := 0) (n := n) (fun i σ M => ∃ (xs : List Str) (v5 v6 : Option V), σ = [some (.ref s), some (.int (n : Nat)), some (.int sh), some (.ref D), some (.ref tl), v5, v6] ∧ Src M s c ∧ (∀ b u, b ≠ s → b ≠ c → H b = some u → M b = some u) ∧
    M D = some (.lst (xs.map V.str)) ∧ M tl = some (.lst tailsV) ∧ (∀ x ∈ xs, wordD (.str x) = true) ∧ xs.length = i ∧ ∀ (j : Nat) (x : Str), xs[j]? = some x → idxS x = (sh + 37 * (0 + (j : Int))) % 100) ?_ ?_ ?_
  · refine ⟨[], none, none, rfl, g3.src, fun b u n1 n2 q => ?_, s3 _ _ upd_same, upd_same, (fun _ h => nomatch h), rfl, fun j x h => by cases j <;> cases h⟩
    exact (s2.trans s3) _ _ (g1.keep _ _ n1 n2 q)
  · rintro i σ M hi ⟨xs, v5, v6, rfl, S, old, eD, eT, ok, lx, ix⟩
    refine ⟨_, rfl, s, c, 26, rfl, S, by decide, by decide, fun j M1 j0 j1 ga => ?_⟩
    have l26 : LTR.cps.toList.length = 26 := by decide +kernel
    have hj : j.toNat < LTR.cps.toList.length := by rw [l26]; omega
    have ej : ((j.toNat : Nat) : Int) = j := by omega
    have ea : atI LTR.cps.toList j = some (LTR.cps.toList[j.toNat]) := by
      have q := atI_nat (List.getElem?_eq_getElem hj)
      rw [ej] at q
      exact q
    have al : inS LTR (LTR.cps.toList[j.toNat]) = true := decide_eq_true (List.getElem_mem _)
    generalize LTR.cps.toList[j.toNat] = lc at ea al
    refine ⟨LTR, _, _, rfl, rfl, (by show 26 ≤ sizeLine; decide), ea, ?_⟩
    have eD1 := ga.lst S eD nD.2
    have eT1 := ga.lst S eT nT.2
    have m0 : 0 ≤ (sh + 37 * (0 + (i : Int))) % 100 := Int.emod_nonneg _ (by decide)
    have m1 : (sh + 37 * (0 + (i : Int))) % 100 < 100 := Int.emod_lt_of_pos _ (by decide)
    have ⟨w2, wa, wl, wg⟩ := two_ok _ m0 m1
    refine ⟨_, rfl, .inl ⟨rfl, _, SqL.of eD1⟩, _, rfl, _, rfl, _, rfl, _, _, rfl, rfl, .inl ⟨by omega, by omega⟩, _, _, rfl, rfl, .inl ⟨_, rfl, _, _, rfl, rfl, (by show (0 : Int) < 100; decide), _, _, rfl, rfl, _, rfl, wg, _, rfl, _, rfl, sz6 (by omega), ?_⟩⟩
    have w2' : (cutS (toString (100 + (sh + 37 * (0 + (i : Int))) % 100)) (some 1) none).length = 2 := w2
    refine ⟨_, _, rfl, rfl, by rw [w2']; exact sz6 (by show 1 + 2 ≤ _; decide), _, rfl, _, rfl, s, c, 5, rfl, ga.src, by decide, by decide, fun j2 M2 q0 q1 gb => ?_⟩
    have eD2 := gb.lst ga.src eD1 nD.2
    have eT2 := gb.lst ga.src eT1 nT.2
    have hj2 : j2.toNat < tailsV.length := by show j2.toNat < 5; omega
    have ej2 : ((j2.toNat : Nat) : Int) = j2 := by omega
    have at2 : atI tailsV j2 = some (tailsV[j2.toNat]) := by
      have q := atI_nat (List.getElem?_eq_getElem hj2)
      rw [ej2] at q
      exact q
    obtain ⟨t, et, t9, ta⟩ := tails_ok (List.getElem_mem hj2)
    rw [et] at at2
    have ok1 := name_ok al w2 wa t9 ta
    refine ⟨tl, _, _, _, rfl, rfl, SqL.of eT2, at2, _, _, rfl, rfl, ?_, D, _, _, rfl, rfl, eD2, ?_, ?_⟩
    · rw [len_app, w2']; exact sz6 (by show 1 + 2 + t.length ≤ _; omega)
    · rw [List.length_map, lx]; exact small1000 (by omega)
    refine ⟨xs ++ [(⟨#[lc]⟩ : Str) ++ twoS ((sh + 37 * (0 + (i : Int))) % 100) ++ t], _, _, rfl, gb.src.upd6 nD, fun b u n1 n2 q => ?_, ?_, ?_, ?_, ?_, ?_⟩
    · rw [upd_ne (ne_of_none q (g1.free hD))]
      exact gb.keep _ _ n1 n2 (ga.keep _ _ n1 n2 (old b u n1 n2 q))
    · rw [upd_same, List.map_append]; rfl
    · rw [upd_ne nDT.symm]; exact eT2
    · intro x hx
      rcases List.mem_append.mp hx with h | h
      · exact ok x h
      · rw [List.mem_singleton.mp h]; exact ok1
    · rw [List.length_append, lx]; rfl
    · intro j x hx
      by_cases lj : j < xs.length
      · rw [List.getElem?_append_left lj] at hx
        exact ix j x hx
      · rw [List.getElem?_append_right (by omega)] at hx
        have ej0 : j - xs.length = 0 := by
          have := (List.getElem?_eq_some_iff.mp hx).1
          rw [List.length_singleton] at this
          omega
        rw [ej0] at hx
        cases hx
        have ejx : j = i := by omega
        rw [ejx]
        exact idx_name _ m0 m1
  · rintro σ M ⟨xs, v5, v6, rfl, S, old, eD, eT, ok, lx, ix⟩
    exact ⟨_, rfl, k D xs M ⟨fun a o n1 n2 q => old a o n1 n2 q, S⟩ (g1.free hD) eD ok lx (idx_nodup hn lx ix) (fun x hx => by
      obtain ⟨j, hj, rfl⟩ := List.getElem_of_mem hx
      rw [ix j _ (List.getElem?_eq_getElem hj)]
      exact Int.emod_lt_of_pos _ (by decide))⟩
theorem ok_mixed (T : Tx K mg) : FnOk P w K mg base CX0 2 T.a_law_mixed T.fd_law_mixed ["_law_source_here", "_law_things"] spMixed := by
  refine T.F_law_mixed.ok sc_law_mixed (fun vs H Q E h => ?_) (fun cdv A outer st H vs Q E hr h => ?_)
  · obtain ⟨s, c, a, xs, rfl, _⟩ := h
    rfl
  obtain ⟨s, c, a, xs, rfl, hS, ha, lx, k⟩ := h
  have G_law_pick : FnOk P w K mg base CX0 1 T.a_law_pick T.fd_law_pick ["_law_source_here", "_law_many"] spPick := ok_pick T
  have hr_law_pick : Room 1 _ := hr
  refine ⟨_, ((pss_cons (ps_set (i := 2) sc_law_mixed.nd rfl (Or.inr rfl) (pe_callTy call_list_of (by rfl) T.n_list (by decide +kernel) (pa_cons (pv 1) pa_nil)))
      (pss_one (ps_ret (pe_lc (own := [("_law_lap", 3)]) (by rfl) sc_law_mixed.nd (pi_range1 rfl T.n_range (pa_cons (pe_callB (show CallR _ (.builtin "len") (rLenK K) from call_lenK) (by rfl) T.n_len (by decide +kernel) (pa_cons (pv 2) pa_nil)) pa_nil)) (blkOk_by (own := [("_law_lap", 3)]) (N := ["_law_source_here", "_law_things", "_law_ahead", "_law_lap"]) (sc := defScope s_law_mixed) (by decide +kernel)) (fun _ _ _ _ _ => pg_name (i := 3) sc_law_mixed.nd rfl (Or.inl rfl)) (fun _ _ _ _ _ => pts_nil) (fun _ _ _ _ _ => (show PE _ _ (tBM K _ _ _ _) from pe_bm PySem.F.plainAttrs_list PySem.F.slot_list_pop PySem.F.type_list_pop mt_popAt (pv 2) (pa_cons (pe_call G_law_pick hr_law_pick rfl T.m_law_pick T.F_law_pick.kp T.b_law_pick .nil pass0 (pa_cons (pv 0) (pa_cons (pe_callB (show CallR _ (.builtin "len") (rLenK K) from call_lenK) (by rfl) T.n_len (by decide +kernel) (pa_cons (pv 2) pa_nil)) pa_nil))) pa_nil)))))))), ?_⟩
  refine ⟨_, rfl, a, xs, rfl, .inl (SqL.of ha), fun R hR => ?_⟩
  have sR := same_new hR (.lst xs)
  have nR := hS.ne_none hR
  have eR : (L2.upd H R (.lst xs)) R = some (.lst xs) := upd_same
  refine ⟨_, rfl, R, xs, rfl, .inl (SqL.of eR), _, rfl, by omega, by omega, fun D hD => ?_⟩
  have nDR : D ≠ R := fun e => by rw [e, eR] at hD; cases hD
  have nD := (hS.same sR).ne_none hD
  have g0 : Go s c H _ := (Go.of hS sR).then (same_new hD (.lst []))
  refine lc_range (lo := 0) (n := xs.length) (fun i M => ∃ rest dn : List V, (∀ b u, b ≠ s → b ≠ c → H b = some u → M b = some u) ∧ Src M s c ∧ M R = some (.lst rest) ∧ M D = some (.lst dn) ∧ (dn ++ rest).Perm xs ∧ dn.length = i) ⟨xs, [], g0.keep, g0.src, by rw [upd_ne nDR.symm]; exact eR, upd_same, List.Perm.refl _, rfl⟩ (fun i M hi z => ?_) (fun M z => ?_)
  · obtain ⟨rest, dn, old, S, eRM, eDM, pm, ln⟩ := z
    have lr : rest.length = xs.length - i := by
      have := pm.length_eq
      rw [List.length_append] at this
      omega
    refine ⟨rfl, _, rfl, .inl ⟨rfl, _, SqL.of eRM⟩, _, rfl, _, rfl, R, rest, rfl, .inl (SqL.of eRM), s, c, _, rfl, S, by omega, by omega, fun j M2 j0 j1 g => ?_⟩
    have eR2 := g.lst S eRM nR.2
    have eD2 := g.lst S eDM nD.2
    obtain ⟨jn, rfl⟩ : ∃ jn : Nat, j = (jn : Int) := ⟨j.toNat, by omega⟩
    have hj : jn < rest.length := by omega
    have hy : rest[jn]? = some rest[jn] := List.getElem?_eq_getElem hj
    generalize rest[jn] = y at hy
    refine ⟨R, rest, _, jn, y, rfl, rfl, eR2, by omega, by omega, ?_, hy, ?_⟩
    · show (if (decide (0 ≤ (if (jn : Int) < 0 then (jn : Int) + rest.length else (jn : Int))) && decide ((if (jn : Int) < 0 then (jn : Int) + rest.length else (jn : Int)) < rest.length)) = true then some (if (jn : Int) < 0 then (jn : Int) + rest.length else (jn : Int)).toNat else none) = some jn
      rw [if_neg (by omega : ¬ (jn : Int) < 0), decide_eq_true (by omega), decide_eq_true (by omega)]
      rfl
    refine ⟨dn, by rw [upd_ne nDR]; exact eD2, by rw [ln]; exact small1000 (by omega), rest.eraseIdx jn, dn ++ [y], fun b u n1 n2 q => ?_, ?_, ?_, upd_same, ?_, by rw [List.length_append, ln]; rfl⟩
    · rw [upd_ne (ne_of_none q (sR.free hD)), upd_ne (ne_of_none q hR)]
      exact g.keep _ _ n1 n2 (old b u n1 n2 q)
    · exact (g.src.upd6 nR).upd6 nD
    · rw [upd_ne nDR.symm]; exact upd_same
    · refine List.Perm.trans ?_ pm
      rw [List.append_assoc]
      exact List.Perm.append_left dn (perm_erase hy)
  · obtain ⟨rest, dn, old, S, eRM, eDM, pm, ln⟩ := z
    have : rest = [] := by
      have := pm.length_eq
      rw [List.length_append] at this
      exact List.eq_nil_of_length_eq_zero (by omega)
    rw [this, List.append_nil] at pm
    exact k D dn M ⟨old, S⟩ (sR.free hD) eDM pm
end
end My

namespace My
open PySem PySem.Spec PyProof.Rows L2
/-- the heap without the source of draws -/
def cutH (s c : Addr) (H : Hp) : Hp := fun b => if b = s ∨ b = c then none else H b
theorem cut_at' {s c b : Addr} {H : Hp} {u : HO} (h : cutH s c H b = some u) : b ≠ s ∧ b ≠ c ∧ H b = some u := by
  unfold cutH at h
  by_cases e : b = s ∨ b = c
  · rw [if_pos e] at h; cases h
  · rw [if_neg e] at h
    exact ⟨fun z => e (.inl z), fun z => e (.inr z), h⟩
theorem cut_in {s c b : Addr} {H : Hp} {u : HO} (n : b ≠ s ∧ b ≠ c) (h : H b = some u) : cutH s c H b = some u := by
  unfold cutH
  rw [if_neg (fun z => z.elim n.1 n.2)]
  exact h
theorem cut_same {s c : Addr} {H : Hp} : Same (cutH s c H) H := fun _ _ h => (cut_at' h).2.2
theorem cut_go {s c : Addr} {H H' : Hp} (g : Go s c H H') : Same (cutH s c H) (cutH s c H') := fun b u h => by
  have ⟨n1, n2, e⟩ := cut_at' h
  exact cut_in ⟨n1, n2⟩ (g.keep b u n1 n2 e)
theorem cut_of {s c : Addr} {H H' : Hp} (g : Same H H') : Same (cutH s c H) (cutH s c H') := fun b u h => by
  have ⟨n1, n2, e⟩ := cut_at' h
  exact cut_in ⟨n1, n2⟩ (g b u e)
theorem cutV_lo (xs : List V) {j : Nat} (h : j ≤ xs.length) : cutV xs none (some (j : Int)) = xs.take j := by
  show (xs.drop 0).take (HT.sIx xs.length xs.length (some (j : Int)) - 0) = _
  rw [HT.sIx_nat, Nat.min_eq_left h, Nat.sub_zero, List.drop_zero]
theorem cutV_lo' (xs : List V) {j : Nat} : cutV xs none (some (j : Int)) = xs.take j := by
  show (xs.drop 0).take (HT.sIx xs.length xs.length (some (j : Int)) - 0) = _
  rw [HT.sIx_nat, Nat.sub_zero, List.drop_zero]
  rcases Nat.le_total j xs.length with h | h
  · rw [Nat.min_eq_left h]
  · rw [Nat.min_eq_right h, List.take_of_length_le h, List.take_of_length_le (Nat.le_refl _)]
theorem cutV_hi (xs : List V) {n : Nat} (h : n ≤ xs.length) : cutV xs (some (n : Int)) none = xs.drop n := by
  show (xs.drop (HT.sIx xs.length 0 (some (n : Int)))).take (xs.length - HT.sIx xs.length 0 (some (n : Int))) = _
  rw [HT.sIx_nat, Nat.min_eq_left h, List.take_of_length_le]
  rw [List.length_drop]; omega
theorem iteEq {n m : Nat} {A B : Prop} (e : n = m) (h : A) : if decide (V.int (n : Int) = V.int (m : Int)) = true then A else B := by
  subst e
  rw [decide_eq_true rfl]
  exact iteT h
theorem iteNq {n m : Nat} {A B : Prop} (e : n ≠ m) (h : B) : if decide (V.int (n : Int) = V.int (m : Int)) = true then A else B := by
  rw [decide_eq_false fun z => e (by have := V.int.inj z; omega)]
  exact iteF h
def strV : V → Str
  | .str x => x
  | _ => ""
theorem perm_strs {ys : List V} {gs : List Str} (h : ys.Perm (gs.map V.str)) : ∃ g2 : List Str, ys = g2.map V.str ∧ g2.Perm gs := by
  refine ⟨ys.map strV, ?_, ?_⟩
  · have all : ∀ v ∈ ys, ∃ x, v = V.str x := fun v hv => by
      obtain ⟨x, _, e⟩ := List.mem_map.mp (h.mem_iff.mp hv)
      exact ⟨x, e.symm⟩
    clear h
    induction ys with
    | nil => rfl
    | cons v r ih =>
      obtain ⟨x, rfl⟩ := all v (List.mem_cons_self ..)
      rw [List.map_cons, List.map_cons, ← ih fun u hu => all u (List.mem_cons_of_mem _ hu)]
      rfl
  · have q := h.map strV
    rw [List.map_map] at q
    have e : gs.map (strV ∘ V.str) = gs := by
      induction gs with
      | nil => rfl
      | cons a r ih => exact congrArg (List.cons a) (List.map_id' r)
    rw [e] at q
    exact q
/-! ### drawn trees without names -/
inductive Tr (M : Hp) : Nat → V → List Str → Prop
  | leaf {n : Nat} (x : Str) : Tr M (n + 1) (.str x) [x]
  | fork {n : Nat} {a : Addr} {l r : V} {ls rs : List Str} : M a = some (.lst [l, r]) → Tr M n l ls → Tr M n r rs → Tr M (n + 1) (.ref a) (ls ++ rs)
theorem Tr.same {M M' : Hp} (e : Same M M') : ∀ {n : Nat} {v : V} {ls : List Str}, Tr M n v ls → Tr M' n v ls
  | _, _, _, .leaf x => .leaf x
  | _, _, _, .fork h a b => .fork (e _ _ h) (Tr.same e a) (Tr.same e b)
theorem Tr.pos {M : Hp} : ∀ {n : Nat} {v : V} {ls : List Str}, Tr M n v ls → 1 ≤ ls.length
  | _, _, _, .leaf x => Nat.le_refl _
  | _, _, _, .fork h a b => by rw [List.length_append]; have := Tr.pos a; omega
def spTree (n : Nat) : Sp := fun vs H Q _ => ∃ (s c a : Addr) (gs : List Str), vs = [.ref s, .ref a] ∧ Src H s c ∧ H a = some (.lst (gs.map V.str)) ∧ a ≠ c ∧ 1 ≤ gs.length ∧ gs.length ≤ n ∧ n ≤ 20 ∧
  ∀ (v : V) (ls : List Str) (H' : Hp), Go s c H H' → Tr (cutH s c H') n v ls → ls.Perm gs → Q v H'
def spLeaves34 (n : Nat) : Sp := fun vs H Q _ => ∃ (v : V) (ls : List Str), vs = [v] ∧ Tr H n v ls ∧ ls.length ≤ 100 ∧
  ∀ (D : Addr) (H' : Hp), Same H H' → H D = none → H' D = some (.lst (ls.map V.str)) → Q (.ref D) H'
section
variable {P : Program} {w : World} {K : PySem.W.Frag} {mg : Str → Option Value} {base : Heap}
theorem ok_tree (T : Tx K mg) : ∀ n, FnOk P w K mg base CX0 (n + 3) T.a_law_tree T.fd_law_tree ["_law_source_here", "_law_goods"] (spTree n)
  | 0 => by
    refine T.F_law_tree.ok sc_law_tree (fun vs H Q E h => ?_) (fun cdv A outer st H vs Q E hr h => ?_)
    · obtain ⟨s, c, a, gs, rfl, _⟩ := h
      rfl
    · obtain ⟨s, c, a, gs, rfl, _, _, _, h1, h2, _⟩ := h
      omega
  | n + 1 => by
    refine T.F_law_tree.ok sc_law_tree (fun vs H Q E h => ?_) (fun cdv A outer st H vs Q E hr h => ?_)
    · obtain ⟨s, c, a, gs, rfl, _⟩ := h
      rfl
    obtain ⟨s, c, a, gs, rfl, hS, ha, nac, l1, ln, n20, k⟩ := h
    have G_law_tree : FnOk P w K mg base CX0 (n + 3) T.a_law_tree T.fd_law_tree ["_law_source_here", "_law_goods"] (spTree n) := ok_tree T n
    have hr_law_tree : Room (n + 3) _ := hr
    have G_law_pick : FnOk P w K mg base CX0 1 T.a_law_pick T.fd_law_pick ["_law_source_here", "_law_many"] spPick := ok_pick T
    have hr_law_pick : Room 1 _ := hr.mono (by omega)
    have G_law_mixed : FnOk P w K mg base CX0 2 T.a_law_mixed T.fd_law_mixed ["_law_source_here", "_law_things"] spMixed := ok_mixed T
    have hr_law_mixed : Room 2 _ := hr.mono (by omega)
    refine ⟨_, ((pss_cons (ps_if (pt_cmpR op_eq (pe_callB call_len_seq (by rfl) T.n_len (by decide +kernel) (pa_cons (pv 1) pa_nil)) pe_int (nomark _))
        (pss_one (ps_ret (pe_ix (show IxR _ (rIxL K) from ix_list) (pv 1) pe_int (fun _ _ => rfl))))
        pss_nil)
      (pss_cons (ps_par (i := 2) (j := 3) (by rfl) sc_law_tree.nd rfl rfl (by decide) rfl rfl (pa_cons (pe_op op_add pe_int (pe_call G_law_pick hr_law_pick rfl T.m_law_pick T.F_law_pick.kp T.b_law_pick .nil pass0 (pa_cons (pv 0) (pa_cons (pe_op op_sub (pe_callB call_len_seq (by rfl) T.n_len (by decide +kernel) (pa_cons (pv 1) pa_nil)) pe_int) pa_nil)))) (pa_cons (pe_call G_law_mixed hr_law_mixed rfl T.m_law_mixed T.F_law_mixed.kp T.b_law_mixed .nil pass0 (pa_cons (pv 0) (pa_cons (pv 1) pa_nil))) pa_nil)) (by rfl))
      (pss_one (ps_ret (pe_lst (pa_cons (pe_call G_law_tree hr_law_tree rfl T.m_law_tree T.F_law_tree.kp T.b_law_tree .nil pass0 (pa_cons (pv 0) (pa_cons (pe_slice sl_list (pv 3) po_none (po_some (pv 2))) pa_nil))) (pa_cons (pe_call G_law_tree hr_law_tree rfl T.m_law_tree T.F_law_tree.kp T.b_law_tree .nil pass0 (pa_cons (pv 0) (pa_cons (pe_slice sl_list (pv 3) (po_some (pv 2)) po_none) pa_nil))) pa_nil)))))))), ?_⟩
    by_cases one : gs.length = 1
    · refine ⟨_, rfl, a, _, rfl, .inl (SqL.of ha), rfl, _, rfl, iteEq (m := 1) (by rw [List.length_map]; exact one) ?_⟩
      obtain ⟨x, rfl⟩ : ∃ x, gs = [x] := List.length_eq_one_iff.mp one
      refine ⟨_, rfl, a, _, _, _, rfl, rfl, SqL.of ha, atI_nat (j := 0) rfl, ?_⟩
      exact k _ [x] H (Go.refl hS) (.leaf x) (List.Perm.refl _)
    · refine ⟨_, rfl, a, _, rfl, .inl (SqL.of ha), rfl, _, rfl, iteNq (m := 1) (by rw [List.length_map]; exact one) ?_⟩
      refine ⟨_, rfl, _, rfl, a, _, rfl, .inl (SqL.of ha), _, _, rfl, rfl, s, c, _, rfl, hS, by rw [List.length_map]; omega, by rw [List.length_map]; omega, fun j M j0 j1 g => ⟨_, _, rfl, rfl, ?_⟩⟩
      have ha1 := g.lst hS ha nac
      refine ⟨_, rfl, _, rfl, s, c, a, _, rfl, g.src, ha1, by rw [List.length_map]; omega, fun D ys M2 g2 hD eD pm => ⟨_, _, rfl, ?_⟩⟩
      obtain ⟨g3, rfl, pg⟩ := perm_strs pm
      have lg : g3.length = gs.length := pg.length_eq
      rw [List.length_map] at j1
      obtain ⟨jn, rfl⟩ : ∃ jn : Nat, j = (jn : Int) := ⟨j.toNat, by omega⟩
      have e1 : (1 + (jn : Int)) = ((jn + 1 : Nat) : Int) := by omega
      have nD := g.src.ne_none hD
      have lo : cutV (g3.map V.str) none (some (1 + (jn : Int))) = (g3.take (jn + 1)).map V.str := by rw [e1, cutV_lo _ (by rw [List.length_map]; omega), List.map_take]
      have hi : cutV (g3.map V.str) (some (1 + (jn : Int))) none = (g3.drop (jn + 1)).map V.str := by rw [e1, cutV_hi _ (by rw [List.length_map]; omega), List.map_drop]
      refine ⟨_, rfl, _, rfl, _, rfl, 1 + (jn : Int), rfl, D, _, rfl, SqL.of eD, fun p hp => ?_⟩
      rw [lo]
      have sp := same_new hp (.lst ((g3.take (jn + 1)).map V.str))
      have np := g2.src.ne_none hp
      refine ⟨s, c, p, _, rfl, g2.src.same sp, upd_same, np.2, by rw [List.length_take]; omega, by rw [List.length_take]; omega, by omega, fun v ls M3 g3' t1 p1 => ?_⟩
      have gA := (Go.of g2.src sp).trans g3'
      have eD3 := gA.lst g2.src eD nD.2
      refine ⟨_, rfl, _, rfl, _, rfl, 1 + (jn : Int), rfl, D, _, rfl, SqL.of eD3, fun p2 hp2 => ?_⟩
      rw [hi]
      have sp2 := same_new hp2 (.lst ((g3.drop (jn + 1)).map V.str))
      have np2 := gA.src.ne_none hp2
      refine ⟨s, c, p2, _, rfl, gA.src.same sp2, upd_same, np2.2, by rw [List.length_drop]; omega, by rw [List.length_drop]; omega, by omega, fun v2 ls2 M4 g4 t2 p2' => ?_⟩
      have gB := (Go.of gA.src sp2).trans g4
      refine ⟨(by show 2 ≤ sizeLine; decide), fun q hq => ?_⟩
      have nq := gB.src.ne_none hq
      have sq := same_new hq (.lst [v, v2])
      have cq := cut_of (s := s) (c := c) sq
      refine k _ (ls ++ ls2) _ (((g.trans g2).trans (gA.trans gB)).then sq) (.fork (cut_in nq upd_same) (t1.same ((cut_go gB).trans cq)) (t2.same cq)) ?_
      have q3 := p1.append p2'
      rw [List.take_append_drop] at q3
      exact q3.trans pg
theorem ok_leaves34 (T : Tx K mg) : ∀ n, FnOk P w K mg base CX0 (n + 1) T.a_law_leaves T.fd_law_leaves ["_law_tree_here"] (spLeaves34 n)
  | 0 => by
    refine T.F_law_leaves.ok sc_law_leaves (fun vs H Q E h => ?_) (fun cdv A outer st H vs Q E hr h => ?_)
    · obtain ⟨v, ls, rfl, _⟩ := h
      rfl
    · obtain ⟨v, ls, _, t, _⟩ := h
      cases t
  | n + 1 => by
    refine T.F_law_leaves.ok sc_law_leaves (fun vs H Q E h => ?_) (fun cdv A outer st H vs Q E hr h => ?_)
    · obtain ⟨v, ls, rfl, _⟩ := h
      rfl
    obtain ⟨v, ls, rfl, t, ll, k⟩ := h
    have G_law_leaves : FnOk P w K mg base CX0 (n + 1) T.a_law_leaves T.fd_law_leaves ["_law_tree_here"] (spLeaves34 n) := ok_leaves34 T n
    have hr_law_leaves : Room (n + 1) _ := hr
    refine ⟨_, ((pss_cons (ps_if (pt_val (pe_callB (show CallR _ (.builtin "isinstance") (rIsi K) from call_isi) (by rfl) T.n_isinstance (by decide +kernel) (pa_cons (pv 0) (pa_cons (pe_bltn (v := .ty "str") (by rfl) T.n_str (by decide +kernel) rfl) pa_nil))))
        (pss_one (ps_ret (pe_lst (pa_cons (pv 0) pa_nil))))
        pss_nil)
      (pss_one (ps_ret (pe_op op_cat (pe_call G_law_leaves hr_law_leaves rfl T.m_law_leaves T.F_law_leaves.kp T.b_law_leaves .nil pass0 (pa_cons (pe_ix (show IxR _ (rIxL K) from ix_list) (pv 0) pe_int (fun _ _ => rfl)) pa_nil)) (pe_call G_law_leaves hr_law_leaves rfl T.m_law_leaves T.F_law_leaves.kp T.b_law_leaves .nil pass0 (pa_cons (pe_ix (show IxR _ (rIxL K) from ix_list) (pv 0) pe_int (fun _ _ => rfl)) pa_nil))))))), ?_⟩
    cases t with
    | leaf x =>
      refine ⟨_, rfl, .str x, .ty "str", .type "str", .type "str", _, rfl, .ty _, .base (.str x), kit_ty (r := true) (by decide +kernel), ?_⟩
      refine ⟨_, rfl, iteT ?_⟩
      refine ⟨_, rfl, (by show 1 ≤ sizeLine; decide), fun D hD => ?_⟩
      exact k D _ (same_new hD _) hD upd_same
    | fork h a b =>
      rename_i a0 l r ls rs
      rw [List.length_append] at ll
      refine ⟨_, rfl, .ref a0, .ty "str", .type "list", .type "str", _, rfl, .ty _, .base (.lst h), kit_ty (r := false) (by decide +kernel), ?_⟩
      refine ⟨_, rfl, iteF ?_⟩
      refine ⟨_, rfl, a0, _, _, _, rfl, rfl, SqL.of h, atI_nat (j := 0) rfl, l, ls, rfl, a, by omega, fun D1 M1 s1 hD1 e1 => ?_⟩
      refine ⟨_, rfl, a0, _, _, _, rfl, rfl, SqL.of (s1 _ _ h), atI_nat (j := 1) rfl, r, rs, rfl, b.same s1, by omega, fun D2 M2 s2 hD2 e2 => ?_⟩
      refine ⟨D1, D2, _, _, rfl, rfl, s2 _ _ e1, e2, ?_, fun p hp => ?_⟩
      · rw [List.length_map, List.length_map]; exact small (by omega)
      · rw [← List.map_append]
        exact k p _ ((s1.trans s2).trans (same_new hp _)) (s1.free (s2.free hp)) upd_same
end
end My

namespace My
open PySem PySem.Spec PyProof.Rows L2
theorem KT.go {s c : Addr} {H H' : Hp} (S : Src H s c) (g : Go s c H H') : KT H H' := fun b xs e => g.tup S e
theorem paired_of {α : Type} {R : Addr → α → Prop} : ∀ {ps : List Addr} {xs : List α}, AllAt R ps xs → Paired R ps xs
  | [], [], _ => .nil
  | [], _ :: _, h => nomatch h.1
  | _ :: _, [], h => nomatch h.1
  | p :: ps, x :: xs, h => .cons (h.2 0 p x rfl rfl) (paired_of ⟨Nat.succ.inj h.1, fun i p x h1 h2 => h.2 (i + 1) p x h1 h2⟩)
/-! ### the dict of a row -/
def Drow (gs : List Str) (f : Str → Int) : List (Key × V) := gs.map fun g => (.inr g, .int (f g))
def updF (f : Str → Int) (x : Str) (v : Int) : Str → Int := fun y => if y = x then v else f y
theorem get_Drow {gs : List Str} {f : Str → Int} {x : Str} (h : x ∈ gs) : valV (Drow gs f) (Sum.inr x) = some (.int (f x)) := by
  induction gs with
  | nil => cases h
  | cons g r ih =>
    by_cases e : g = x
    · subst e
      exact valV_pos rfl
    · show valV (((Sum.inr g : Key), V.int (f g)) :: Drow r f) (Sum.inr x) = _
      rw [valV_neg (fun z => e (Sum.inr.inj z))]
      exact ih ((List.mem_cons.mp h).resolve_left fun z => e z.symm)
theorem put_Drow {gs : List Str} {f : Str → Int} {x : Str} {v : Int} (h : x ∈ gs) : putK (Drow gs f) (Sum.inr x) (.int v) = Drow gs (updF f x v) := by
  rw [put_there _ (get_Drow h)]
  unfold Drow
  rw [List.map_map]
  refine List.map_congr_left fun g _ => ?_
  show (if (Sum.inr g : Key) = Sum.inr x then ((Sum.inr g : Key), V.int v) else (Sum.inr g, V.int (f g))) = (Sum.inr g, V.int (if g = x then v else f g))
  by_cases e : g = x
  · subst e
    rw [if_pos rfl, if_pos rfl]
  · rw [if_neg (fun z => e (Sum.inr.inj z)), if_neg e]
theorem no_Drow {gs : List Str} {f : Str → Int} {x : Str} (h : x ∉ gs) : valV (Drow gs f) (Sum.inr x) = none := by
  refine valV_no fun kv q e => ?_
  obtain ⟨y, hy, rfl⟩ := List.mem_map.mp q
  exact h (Sum.inr.inj e ▸ hy)
theorem merge_Drow (f : Str → Int) : ∀ (bs as : List Str), (as ++ bs).Nodup → mergeK (Drow as f) (Drow bs f) = Drow (as ++ bs) f
  | [], as, _ => by rw [List.append_nil]; rfl
  | b :: bs, as, h => by
    have nb : b ∉ as := fun m => by
      have := (List.nodup_append.mp h).2.2 b m b (List.mem_cons_self ..)
      exact this rfl
    show mergeK (putK (Drow as f) (Sum.inr b) (.int (f b))) (Drow bs f) = _
    rw [putK_new _ (no_Drow nb)]
    have e : Drow as f ++ [((Sum.inr b : Key), V.int (f b))] = Drow (as ++ [b]) f := by unfold Drow; rw [List.map_append]; rfl
    rw [e, merge_Drow f bs (as ++ [b]) (by rw [List.append_assoc]; exact h), List.append_assoc]
    rfl
theorem Drow_len {gs : List Str} {f : Str → Int} : (Drow gs f).length = gs.length := List.length_map _
def RowAt (H : Hp) (p : Addr) (r : List Int) : Prop := H p = some (.tup (rowV r))
theorem mixed_of {gs : List Str} {f : Str → Int} {sg : Int} (hs : sg = 1 ∨ sg = -1) {x y : Str} (hx : x ∈ gs) (hy : y ∈ gs) (px : 0 < f x * sg) (py : 0 < f y * (-sg)) : mixedB (gs.map f) = true := by
  unfold mixedB
  rw [Bool.and_eq_true, List.any_eq_true, List.any_eq_true]
  rcases hs with rfl | rfl
  · exact ⟨⟨f y, List.mem_map.mpr ⟨y, hy, rfl⟩, decide_eq_true (by omega)⟩, ⟨f x, List.mem_map.mpr ⟨x, hx, rfl⟩, decide_eq_true (by omega)⟩⟩
  · exact ⟨⟨f x, List.mem_map.mpr ⟨x, hx, rfl⟩, decide_eq_true (by omega)⟩, ⟨f y, List.mem_map.mpr ⟨y, hy, rfl⟩, decide_eq_true (by omega)⟩⟩
/-- the entries of a row are small -/
def smallR (r : List Int) : Prop := ∀ e ∈ r, -4 ≤ e ∧ e ≤ 4
abbrev RowG (n : Nat) (r : List Int) : Prop := (r.length = n ∧ mixedB r = true) ∧ smallR r
def spForked (n : Nat) : Sp := fun vs H Q _ => ∃ (s c g rl : Addr) (v : V) (sh : Int) (ls gs : List Str) (rs : List Addr) (rows : List (List Int)), vs = [.ref s, v, .ref g, .int sh, .ref rl] ∧ Src H s c ∧ Tr (cutH s c H) n v ls ∧ ls.Nodup ∧ (∀ x ∈ ls, x ∈ gs) ∧
  H g = some (.lst (gs.map V.str)) ∧ g ≠ c ∧ gs.Nodup ∧ gs.length ≤ 20 ∧ (sh = 1 ∨ sh = 4) ∧ H rl = some (.lst (rs.map V.ref)) ∧ rl ≠ c ∧ AllAt (RowAt H) rs rows ∧ (∀ r ∈ rows, RowG gs.length r) ∧ rows.length + ls.length ≤ 50 ∧
  ∀ (rl' : Addr) (rs' : List Addr) (rows' : List (List Int)) (H' : Hp), Go s c H H' → rl' ≠ c → H' rl' = some (.lst (rs'.map V.ref)) → AllAt (RowAt H') rs' rows' → (∀ r ∈ rows', RowG gs.length r) → rows'.length + 1 ≤ rows.length + ls.length → Q (.ref rl') H'
section
variable {P : Program} {w : World} {K : PySem.W.Frag} {mg : Str → Option Value} {base : Heap}
theorem ok_forked (T : Tx K mg) : ∀ n, FnOk P w K mg base CX0 (n + 3) T.a_law_forked T.fd_law_forked ["_law_source_here", "_law_tree_here", "_law_goods", "_law_share", "_law_rows"] (spForked n)
  | 0 => by
    refine T.F_law_forked.ok sc_law_forked (fun vs H Q E h => ?_) (fun cdv A outer st H vs Q E hr h => ?_)
    · obtain ⟨s, c, g, rl, v, sh, ls, gs, rs, rows, rfl, _⟩ := h
      rfl
    · obtain ⟨s, c, g, rl, v, sh, ls, gs, rs, rows, rfl, _, t, _⟩ := h
      cases t
  | n + 1 => by
    refine T.F_law_forked.ok sc_law_forked (fun vs H Q E h => ?_) (fun cdv A outer st H vs Q E hr h => ?_)
    · obtain ⟨s, c, g, rl, v, sh, ls, gs, rs, rows, rfl, _⟩ := h
      rfl
    obtain ⟨s, c, g, rl, v, sh, ls, gs, rs, rows, rfl, hS, t, nd, sub, hg, ngc, ndg, lg, hsh, hrl, nrc, aR, okR, lR, k⟩ := h
    have hu := hu_of hr
    have G_law_forked : FnOk P w K mg base CX0 (n + 3) T.a_law_forked T.fd_law_forked ["_law_source_here", "_law_tree_here", "_law_goods", "_law_share", "_law_rows"] (spForked n) := ok_forked T n
    have hr_law_forked : Room (n + 3) _ := hr
    have G_law_pick : FnOk P w K mg base CX0 1 T.a_law_pick T.fd_law_pick ["_law_source_here", "_law_many"] spPick := ok_pick T
    have hr_law_pick : Room 1 _ := hr.mono (by omega)
    have G_law_of : FnOk P w K mg base CX0 2 T.a_law_of T.fd_law_of ["_law_source_here", "_law_some"] (spOf K) := ok_of T
    have hr_law_of : Room 2 _ := hr.mono (by omega)
    have G_law_mixed : FnOk P w K mg base CX0 2 T.a_law_mixed T.fd_law_mixed ["_law_source_here", "_law_things"] spMixed := ok_mixed T
    have hr_law_mixed : Room 2 _ := hr.mono (by omega)
    have G_law_leaves : FnOk P w K mg base CX0 (n + 1) T.a_law_leaves T.fd_law_leaves ["_law_tree_here"] (spLeaves34 n) := ok_leaves34 T n
    have hr_law_leaves : Room (n + 1) _ := hr.mono (by omega)
    refine ⟨_, ((pss_cons (ps_if (pt_val (pe_callB (show CallR _ (.builtin "isinstance") (rIsi K) from call_isi) (by rfl) T.n_isinstance (by decide +kernel) (pa_cons (pv 1) (pa_cons (pe_bltn (v := .ty "str") (by rfl) T.n_str (by decide +kernel) rfl) pa_nil))))
        (pss_one (ps_ret (pv 4)))
        pss_nil)
      (pss_cons (ps_if (PW.pt (pw_or (pt_cmpR op_gt (pe_call G_law_pick hr_law_pick rfl T.m_law_pick T.F_law_pick.kp T.b_law_pick .nil pass0 (pa_cons (pv 0) (pa_cons (pv 3) pa_nil))) pe_int (nomark _)) (pw_or1 (pt_cmpR op_eq (pv 3) pe_int (nomark _)))))
        (pss_cons (ps_asg (pe_tup (pa_cons (pe_callTy (call_dictP rfl) (by rfl) T.n_dict (by decide +kernel) (pa_cons (pe_lc (own := [("_law_good", 9)]) (by rfl) sc_law_forked.nd (pi_list (pv 2)) (blkOk_by (own := [("_law_good", 9)]) (N := ["_law_source_here", "_law_tree_here", "_law_goods", "_law_share", "_law_rows", "_law_row", "_law_sign", "_law_side", "_law_part", "_law_good"]) (sc := defScope s_law_forked) (by decide +kernel)) (fun _ _ _ _ _ => pg_name (i := 9) sc_law_forked.nd rfl (Or.inl rfl)) (fun _ _ _ _ _ => pts_nil) (fun _ _ _ _ _ => (pe_tup (pa_cons (pv 9) (pa_cons pe_int pa_nil))))) pa_nil)) (pa_cons (pe_call G_law_of hr_law_of rfl T.m_law_of T.F_law_of.kp T.b_law_of .nil pass0 (pa_cons (pv 0) (pa_cons (pe_lst (pa_cons pe_int (pa_cons (pe_un un_neg pe_int) pa_nil))) pa_nil))) pa_nil))) (pg_tup rfl (pgs_cons (pg_name (i := 5) sc_law_forked.nd rfl (Or.inr rfl)) (pgs_cons (pg_name (i := 6) sc_law_forked.nd rfl (Or.inl rfl)) pgs_nil))))
      (pss_cons (ps_for PassesOwn.never rfl (pi_list (pe_lst (pa_cons (pe_tup (pa_cons (pv 6) (pa_cons (pe_ix (show IxR _ (rIxL K) from ix_list) (pv 1) pe_int (fun _ _ => rfl)) pa_nil))) (pa_cons (pe_tup (pa_cons (pe_op op_sub pe_int (pv 6)) (pa_cons (pe_ix (show IxR _ (rIxL K) from ix_list) (pv 1) pe_int (fun _ _ => rfl)) pa_nil))) pa_nil)))) (pg_tup rfl (pgs_cons (pg_name (i := 7) sc_law_forked.nd rfl (Or.inl rfl)) (pgs_cons (pg_name (i := 8) sc_law_forked.nd rfl (Or.inl rfl)) pgs_nil)))
        (pss_one (ps_for PassesOwn.never rfl (pi_list (pe_slice sl_list (pe_call G_law_mixed hr_law_mixed rfl T.m_law_mixed T.F_law_mixed.kp T.b_law_mixed .nil pass0 (pa_cons (pv 0) (pa_cons (pe_call G_law_leaves hr_law_leaves rfl T.m_law_leaves T.F_law_leaves.kp T.b_law_leaves .nil pass0 (pa_cons (pv 8) pa_nil)) pa_nil))) po_none (po_some (pe_call G_law_of hr_law_of rfl T.m_law_of T.F_law_of.kp T.b_law_of .nil pass0 (pa_cons (pv 0) (pa_cons (pe_lst (pa_cons pe_int (pa_cons pe_int (pa_cons pe_int (pa_cons pe_int pa_nil))))) pa_nil)))))) (pg_name (i := 9) sc_law_forked.nd rfl (Or.inl rfl))
        (pss_one (ps_dput hu (pv 5) (pv 9) (pe_op op_mul (pv 7) (pe_call G_law_of hr_law_of rfl T.m_law_of T.F_law_of.kp T.b_law_of .nil pass0 (pa_cons (pv 0) (pa_cons (pe_lst (pa_cons pe_int (pa_cons pe_int (pa_cons pe_int (pa_cons pe_int (pa_cons pe_int (pa_cons pe_int (pa_cons pe_int pa_nil)))))))) pa_nil)))) rfl)))))
      (pss_one (ps_set (i := 4) sc_law_forked.nd rfl (Or.inl rfl) (pe_op op_cat (pv 4) (pe_lst (pa_cons (pe_callTy call_tuple_of (by rfl) T.n_tuple (by decide +kernel) (pa_cons (pe_lc (own := [("_law_good", 9)]) (by rfl) sc_law_forked.nd (pi_list (pv 2)) (blkOk_by (own := [("_law_good", 9)]) (N := ["_law_source_here", "_law_tree_here", "_law_goods", "_law_share", "_law_rows", "_law_row", "_law_sign", "_law_side", "_law_part", "_law_good"]) (sc := defScope s_law_forked) (by decide +kernel)) (fun _ _ _ _ _ => pg_name (i := 9) sc_law_forked.nd rfl (Or.inl rfl)) (fun _ _ _ _ _ => pts_nil) (fun _ _ _ _ _ => (pe_dget hu (pv 5) (pv 9) (fun _ _ => rfl)))) pa_nil)) pa_nil)))))))
        pss_nil)
      (pss_cons (ps_set (i := 4) sc_law_forked.nd rfl (Or.inl rfl) (pe_call G_law_forked hr_law_forked rfl T.m_law_forked T.F_law_forked.kp T.b_law_forked .nil pass0 (pa_cons (pv 0) (pa_cons (pe_ix (show IxR _ (rIxL K) from ix_list) (pv 1) pe_int (fun _ _ => rfl)) (pa_cons (pv 2) (pa_cons (pv 3) (pa_cons (pv 4) pa_nil)))))))
      (pss_one (ps_ret (pe_call G_law_forked hr_law_forked rfl T.m_law_forked T.F_law_forked.kp T.b_law_forked .nil pass0 (pa_cons (pv 0) (pa_cons (pe_ix (show IxR _ (rIxL K) from ix_list) (pv 1) pe_int (fun _ _ => rfl)) (pa_cons (pv 2) (pa_cons (pv 3) (pa_cons (pv 4) pa_nil)))))))))))), ?_⟩
    cases t with
    | leaf x =>
      refine ⟨_, rfl, .str x, .ty "str", .type "str", .type "str", _, rfl, .ty _, .base (.str x), kit_ty (r := true) (by decide +kernel), ?_⟩
      refine ⟨_, rfl, iteT ⟨_, rfl, ?_⟩⟩
      exact k rl rs rows H (Go.refl hS) nrc hrl aR okR (Nat.le_refl _)
    | fork h tl tr =>
      rename_i a0 l r ll lr
      obtain ⟨na0s, na0c, ha0⟩ := cut_at' h
      rw [List.length_append] at lR
      have nd2 := List.nodup_append.mp nd
      refine ⟨_, rfl, .ref a0, .ty "str", .type "list", .type "str", _, rfl, .ty _, .base (.lst ha0), kit_ty (r := false) (by decide +kernel), ?_⟩
      refine ⟨_, rfl, iteF ?_⟩
      refine ⟨_, rfl, _, rfl, s, c, sh, rfl, hS, by rcases hsh with rfl | rfl <;> decide, by rcases hsh with rfl | rfl <;> decide, fun j M j0 j1 g1 => ⟨_, _, rfl, rfl, _, rfl, iteD (fun _ => ?gA) (fun _ => ⟨_, rfl, rfl, _, rfl, iteD (fun _ => ?gB) (fun _ => ?gC)⟩)⟩⟩
      case gC =>
        have erl := g1.lst hS hrl nrc
        have aR1 : AllAt (RowAt M) rs rows := aR.imp fun p x z => KT.go hS g1 _ _ z
        have haM := g1.lst hS ha0 na0c
        refine ⟨_, rfl, _, rfl, a0, _, _, _, rfl, rfl, SqL.of haM, atI_nat (j := 0) rfl, _, rfl, _, rfl, _, rfl, s, c, g, rl, l, sh, ll, gs, rs, rows, rfl, g1.src, tl.same (cut_go g1), nd2.1, fun x hx => sub x (List.mem_append_left _ hx), g1.lst hS hg ngc, ngc, ndg, lg, hsh, erl, nrc, aR1, okR, by have := (Nat.le_succ rows.length); have := tr.pos; omega, fun rl3 rs3 rows3 M3 g3 n3 e3 a3 ok3 l3 => ?_⟩
        have gM3 := g1.trans g3
        have haM3 := gM3.lst hS ha0 na0c
        refine ⟨_, rfl, _, rfl, a0, _, _, _, rfl, rfl, SqL.of haM3, atI_nat (j := 1) rfl, _, rfl, _, rfl, _, rfl, s, c, g, rl3, r, sh, lr, gs, rs3, rows3, rfl, gM3.src, tr.same (cut_go gM3), nd2.2.1, fun x hx => sub x (List.mem_append_right _ hx), gM3.lst hS hg ngc, ngc, ndg, lg, hsh, e3, n3, a3, ok3, by have := (Nat.le_succ rows.length); omega, fun rl4 rs4 rows4 M4 g4 n4 e4 a4 ok4 l4 => ?_⟩
        exact k rl4 rs4 rows4 M4 (gM3.trans g4) n4 e4 a4 ok4 (by have := (Nat.le_succ rows.length); rw [List.length_append]; omega)
      all_goals
        have hgM := g1.lst hS hg ngc
        have hll : ll.length ≤ 50 := by omega
        have hlr : lr.length ≤ 50 := by omega
        have ndc0 : ∀ (d : Addr), M d = none → d ≠ s ∧ d ≠ c := fun d h => g1.src.ne_none h
        -- the dict of noughts
        refine ⟨_, rfl, g, rfl, ⟨_, SqL.of hgM⟩, fun D hD => ?_⟩
        refine lc_list (xs := gs.map V.str) (fun i M' => ∃ ps : List Addr, Same M M' ∧ M' D = some (.lst (ps.map V.ref)) ∧ AllAt (fun p x => M' p = some (.tup [.str x, .int 0])) ps (gs.take i)) ⟨[], same_new hD _, upd_same, AllAt.nil⟩ (fun i M' _ ⟨_, z, _⟩ => SqL.of (z _ _ hgM)) (fun i y M' hy z => ?_) (fun MB z => ?_)
        · obtain ⟨x, hx, rfl⟩ := getM hy
          obtain ⟨ps, sM, eM, aM⟩ := z
          have lp : ps.length = (gs.take i).length := aM.1
          refine ⟨rfl, _, rfl, (by show 2 ≤ sizeLine; decide), fun q hq => ⟨_, same_new hq _ _ _ eM, ?_, ps ++ [q], same_put hD (sM.trans (same_new hq _)), by rw [upd_same, List.map_append]; rfl, ?_⟩⟩
          · rw [List.length_map, lp, List.length_take]; exact small1000 (by omega)
          · rw [← take_snoc hx]
            have kD := KT.upd (o := .lst (ps.map V.ref ++ [.ref q])) (same_new hq (.tup [.str x, .int 0]) _ _ eM)
            exact (aM.imp fun p x h => kD _ _ (same_new hq _ _ _ h)).snoc (kD _ _ upd_same)
        obtain ⟨ps, sB, eB, aB⟩ := z
        rw [List.length_map, List.take_length] at aB
        have pr : AllAt (fun (p : Addr) (kv : Key × V) => SqT K MB p [kV kv.1, kv.2]) ps (Drow gs fun _ => 0) := ⟨by rw [Drow_len]; exact aB.1, fun i p kv h1 h2 => by
          obtain ⟨x, hx⟩ : ∃ x, gs[i]? = some x ∧ kv = (Sum.inr x, V.int 0) := by
            unfold Drow at h2
            rw [List.getElem?_map] at h2
            cases e : gs[i]? with
            | none => rw [e] at h2; cases h2
            | some u => rw [e] at h2; exact ⟨u, rfl, (Option.some.inj h2).symm⟩
          rw [hx.2]
          exact SqT.of (aB.2 i p x h1 hx.1)⟩
        refine ⟨D, ps, Drow gs fun _ => 0, rfl, SqL.of eB, paired_of pr, fun d hd => ?_⟩
        have mg0 : mergeK [] (Drow gs fun _ => 0) = Drow gs fun _ => 0 := merge_Drow (fun _ => 0) gs [] ndg
        rw [mg0]
        have sD := sB.trans (same_new hd (.dK (Drow gs fun _ => 0)))
        have hdM : M d = none := sB.free hd
        have ⟨nds, ndc⟩ := ndc0 d hdM
        have gD : Go s c H _ := g1.then sD
        have eD : (L2.upd MB d (.dK (Drow gs fun _ => 0))) d = some (.dK (Drow gs fun _ => 0)) := upd_same
        have hdH : H d = none := g1.free hdM
        generalize L2.upd MB d (.dK (Drow gs fun _ => 0)) = MD at gD eD ⊢
        -- the sign
        refine ⟨_, rfl, 1, rfl, (by show 2 ≤ sizeLine; decide), fun p hp => ?_⟩
        have sp := same_new hp (.lst [.int 1, .int (-1)])
        refine ⟨s, c, p, _, rfl, gD.src.same sp, upd_same, (gD.src.ne_none hp).2, by show 1 ≤ 2; decide, by show 2 < 1000000; decide, fun i x M2 hx g2 => ?_⟩
        obtain ⟨sg, rfl, hsg⟩ : ∃ sg : Int, x = .int sg ∧ (sg = 1 ∨ sg = -1) := by
          have := List.mem_of_getElem? hx
          simp only [List.mem_cons, List.not_mem_nil, or_false] at this
          rcases this with rfl | rfl
          · exact ⟨1, rfl, .inl rfl⟩
          · exact ⟨-1, rfl, .inr rfl⟩
        have gp := (Go.of gD.src sp).trans g2
        have eD2 := gp.keep _ _ nds ndc eD
        have g12 := gD.trans gp
        refine ⟨(by show 2 ≤ sizeLine; decide), fun tp htp => ⟨tp, _, rfl, SqT.of upd_same, rfl, _, _, rfl, _, _, rfl, rfl, ?_⟩⟩
        have st := same_new htp (.tup [.ref d, .int sg])
        have eD3 := st _ _ eD2
        have g13 := g12.then st
        generalize L2.upd M2 tp (.tup [.ref d, .int sg]) = M3 at g13 eD3 ⊢
        -- the two sides
        have ha3 := g13.lst hS ha0 na0c
        refine ⟨_, rfl, _, rfl, a0, _, _, _, rfl, rfl, SqL.of ha3, atI_nat (j := 0) rfl, (by show 2 ≤ sizeLine; decide), fun p1 h1 => ?_⟩
        have s1 := same_new h1 (.tup [.int sg, l])
        have ha4 := s1 _ _ ha3
        refine ⟨_, rfl, _, _, rfl, rfl, _, rfl, a0, _, _, _, rfl, rfl, SqL.of ha4, atI_nat (j := 1) rfl, (by show 2 ≤ sizeLine; decide), fun p2 h2 => ⟨(by show 2 ≤ sizeLine; decide), fun L0 hL0 => ?_⟩⟩
        have s2 := same_new h2 (.tup [.int (0 - sg), r])
        have sL := same_new hL0 (.lst [.ref p1, .ref p2])
        have nL0 := ((g13.src.same s1).same s2).ne_none hL0
        have e1 := sL _ _ (s2 _ _ (upd_same (H := M3) (a := p1) (o := .tup [.int sg, l])))
        have e2 := sL _ _ (upd_same (H := L2.upd M3 p1 (.tup [.int sg, l])) (a := p2) (o := .tup [.int (0 - sg), r]))
        have eL := upd_same (H := L2.upd (L2.upd M3 p1 (.tup [.int sg, l])) p2 (.tup [.int (0 - sg), r])) (a := L0) (o := .lst [.ref p1, .ref p2])
        have eD4 := sL _ _ (s2 _ _ (s1 _ _ eD3))
        have gL := g13.then (s1.trans (s2.trans sL))
        generalize L2.upd (L2.upd (L2.upd M3 p1 (.tup [.int sg, l])) p2 (.tup [.int (0 - sg), r])) L0 (.lst [.ref p1, .ref p2]) = ML at e1 e2 eL eD4 gL ⊢
        refine ⟨L0, rfl, ⟨_, SqL.of eL⟩, for_list (K := K) (a := L0) (xs := [.ref p1, .ref p2]) (fun i σ M' => ∃ (v7 v8 v9 : Option V) (f : Str → Int), σ = [some (.ref s), some (.ref a0), some (.ref g), some (.int sh), some (.ref rl), some (.ref d), some (.int sg), v7, v8, v9] ∧ Src M' s c ∧
            (∀ b u, b ≠ s → b ≠ c → H b = some u → M' b = some u) ∧ M' L0 = some (.lst [.ref p1, .ref p2]) ∧ KT ML M' ∧ M' d = some (.dK (Drow gs f)) ∧ (∀ z, -4 ≤ f z ∧ f z ≤ 4) ∧ (1 ≤ i → ∃ x ∈ ll, 0 < f x * sg) ∧ (2 ≤ i → ∃ y ∈ lr, 0 < f y * (-sg)))
          ⟨none, none, none, fun _ => 0, rfl, gL.src, gL.keep, eL, KT.refl, eD4, (fun z => ⟨by show (-4 : Int) ≤ 0; decide, by show (0 : Int) ≤ 4; decide⟩), fun h => by omega, fun h => by omega⟩ (fun i σ M' _ ⟨_, _, _, _, _, _, _, z, _⟩ => SqL.of z) (fun i y σ M' hy z => ?_) (fun σ M' z => ?_)⟩
        · obtain ⟨v7, v8, v9, f, rfl, S, old, eLM, kM, eDM, bd, in1, in2⟩ := z
          obtain ⟨side, part, lp, p, rfl, ep, tp', subp, lp1, lpn, hside, hi⟩ : ∃ (side : Int) (part : V) (lp : List Str) (p : Addr), y = .ref p ∧ M' p = some (.tup [.int side, part]) ∧ Tr (cutH s c H) n part lp ∧ (∀ x ∈ lp, x ∈ gs) ∧ 1 ≤ lp.length ∧ lp.length ≤ 50 ∧ (side = 1 ∨ side = -1) ∧ ((i = 0 ∧ side = sg ∧ lp = ll) ∨ (i = 1 ∧ side = -sg ∧ lp = lr)) := by
            match i, hy with
            | 0, hy => cases hy; exact ⟨sg, l, ll, p1, rfl, kM _ _ e1, tl, fun x hx => sub x (List.mem_append_left _ hx), tl.pos, hll, hsg, .inl ⟨rfl, rfl, rfl⟩⟩
            | 1, hy => cases hy; exact ⟨0 - sg, r, lr, p2, rfl, kM _ _ e2, tr, fun x hx => sub x (List.mem_append_right _ hx), tr.pos, hlr, hsg.elim (fun e => .inr (by rw [e]; rfl)) (fun e => .inl (by rw [e]; rfl)), .inr ⟨rfl, Int.zero_sub sg, rfl⟩⟩
          refine ⟨p, _, rfl, SqT.of ep, rfl, _, _, rfl, _, _, rfl, rfl, ?_⟩
          have cutM : Same (cutH s c H) M' := fun b u q => by
            have ⟨n1, n2, e⟩ := cut_at' q
            exact old b u n1 n2 e
          refine ⟨_, rfl, _, rfl, part, lp, rfl, tp'.same cutM, by omega, fun D1 N1 t1 hD1 f1 => ?_⟩
          have SN1 := S.same t1
          refine ⟨s, c, D1, _, rfl, SN1, f1, by rw [List.length_map]; omega, fun D2 ys N2 u2 hD2 f2 pm => ?_⟩
          obtain ⟨g3, rfl, pg⟩ := perm_strs pm
          have lg3 : g3.length = lp.length := pg.length_eq
          have nD2 := SN1.ne_none hD2
          refine ⟨_, rfl, (by show 4 ≤ sizeLine; decide), fun p3 hp3 => ?_⟩
          have t3 := same_new hp3 (.lst [.int 1, .int 1, .int 2, .int 3])
          refine ⟨s, c, p3, _, rfl, u2.src.same t3, upd_same, (u2.src.ne_none hp3).2, by show 1 ≤ 4; decide, by show 4 < 1000000; decide, fun i3 x3 N3 hx3 u3 => ?_⟩
          obtain ⟨q, rfl, hq⟩ : ∃ q : Nat, x3 = .int (q : Nat) ∧ 1 ≤ q := by
            have := List.mem_of_getElem? hx3
            simp only [List.mem_cons, List.not_mem_nil, or_false] at this
            rcases this with rfl | rfl | rfl | rfl
            · exact ⟨1, rfl, by decide⟩
            · exact ⟨1, rfl, by decide⟩
            · exact ⟨2, rfl, by decide⟩
            · exact ⟨3, rfl, by decide⟩
          have u23 := (Go.of u2.src t3).trans u3
          have f3 := u23.lst u2.src f2 nD2.2
          have lo : cutV (g3.map V.str) none (some (q : Int)) = (g3.take q).map V.str := by rw [cutV_lo', List.map_take]
          refine ⟨(q : Int), rfl, D2, _, rfl, SqL.of f3, fun pS hS' => ?_⟩
          rw [lo]
          have tS := same_new hS' (.lst ((g3.take q).map V.str))
          have nS := u23.src.ne_none hS'
          have gAll : Go s c M' _ := ((Go.of S t1).trans (u2.trans u23)).then tS
          have eS := upd_same (H := N3) (a := pS) (o := .lst ((g3.take q).map V.str))
          generalize L2.upd N3 pS (.lst ((g3.take q).map V.str)) = NS at tS eS gAll ⊢
          refine ⟨pS, rfl, ⟨_, SqL.of eS⟩, for_list (K := K) (a := pS) (xs := (g3.take q).map V.str) (fun j σ M' => ∃ (v9 : Option V) (f' : Str → Int), σ = [some (.ref s), some (.ref a0), some (.ref g), some (.int sh), some (.ref rl), some (.ref d), some (.int sg), some (.int side), some part, v9] ∧ Src M' s c ∧
            (∀ b u, b ≠ s → b ≠ c → H b = some u → M' b = some u) ∧ M' L0 = some (.lst [.ref p1, .ref p2]) ∧ M' pS = some (.lst ((g3.take q).map V.str)) ∧ KT ML M' ∧ M' d = some (.dK (Drow gs f')) ∧ (∀ z, -4 ≤ f' z ∧ f' z ≤ 4) ∧ (∀ x, x ∉ lp → f' x = f x) ∧ (1 ≤ j → ∃ x ∈ lp, 0 < f' x * side))
            ⟨v9, f, rfl, gAll.src, fun b u n1 n2 e => gAll.keep _ _ n1 n2 (old b u n1 n2 e), gAll.lst S eLM nL0.2, eS, kM.trans (KT.go S gAll), gAll.keep _ _ nds ndc eDM, bd, fun _ _ => rfl, fun h => by omega⟩ (fun j σ M' _ ⟨_, _, _, _, _, _, z, _⟩ => SqL.of z) (fun j y σ M' hy z => ?_) (fun σ M' z => ?_)⟩
          · obtain ⟨v9, f', rfl, S, old, eLM, eSM, kM, eDM, bd', same', pos'⟩ := z
            obtain ⟨x, hx, rfl⟩ := getM hy
            have xlp : x ∈ lp := pg.mem_iff.mp (List.mem_of_mem_take (List.mem_of_getElem? hx))
            refine ⟨_, rfl, _, rfl, (by show 7 ≤ sizeLine; decide), fun p4 hp4 => ?_⟩
            have t4 := same_new hp4 (.lst [.int 1, .int 1, .int 1, .int 2, .int 2, .int 3, .int 4])
            refine ⟨s, c, p4, _, rfl, S.same t4, upd_same, (S.ne_none hp4).2, by show 1 ≤ 7; decide, by show 7 < 1000000; decide, fun i4 x4 N4 hx4 u4 => ?_⟩
            obtain ⟨m, rfl, hm⟩ : ∃ m : Int, x4 = .int m ∧ 1 ≤ m ∧ m ≤ 4 := by
              have := List.mem_of_getElem? hx4
              simp only [List.mem_cons, List.not_mem_nil, or_false] at this
              rcases this with rfl | rfl | rfl | rfl | rfl | rfl | rfl <;> exact ⟨_, rfl, by decide, by decide⟩
            have u5 := (Go.of S t4).trans u4
            have eD5 := u5.keep _ _ nds ndc eDM
            refine ⟨_, _, rfl, rfl, .inr (by omega), _, rfl, _, rfl, d, _, rfl, DPut.k (k := Sum.inr x) eD5 (by rw [Drow_len]; exact small1000 (by omega)), ?_⟩
            rw [put_Drow (subp x xlp)]
            have notL : ∀ {b : Addr} {xs : List V}, N4 b = some (.lst xs) → b ≠ d := fun e z => by rw [z, eD5] at e; cases e
            have notT : ∀ {b : Addr} {xs : List V}, N4 b = some (.tup xs) → b ≠ d := fun e z => by rw [z, eD5] at e; cases e
            refine ⟨_, updF f' x (side * m), rfl, u5.src.upd6 ⟨fun z => nds z, fun z => ndc z⟩, fun b u n1 n2 e => ?_, ?_, ?_, fun b xs e => ?_, upd_same, fun z => ?_, fun z hz => ?_, fun _ => ⟨x, xlp, ?_⟩⟩
            · rw [upd_ne (ne_of_none e hdH)]; exact u5.keep _ _ n1 n2 (old b u n1 n2 e)
            · have e := u5.lst S eLM nL0.2
              rw [upd_ne (notL e)]; exact e
            · have e := u5.lst S eSM nS.2
              rw [upd_ne (notL e)]; exact e
            · have e' := KT.go S u5 _ _ (kM _ _ e)
              rw [upd_ne (notT e')]; exact e'
            · unfold updF
              by_cases ez : z = x
              · rw [if_pos ez]
                rcases hside with rfl | rfl <;> omega
              · rw [if_neg ez]
                exact bd' z
            · unfold updF
              rw [if_neg (fun (e : z = x) => hz (by rw [e]; exact xlp))]
              exact same' z hz
            · unfold updF
              rw [if_pos rfl]
              rcases hside with rfl | rfl <;> omega
          · obtain ⟨v9, f', rfl, S, old, eLM, eSM, kM, eDM, bd', same', pos'⟩ := z
            have l9 : 1 ≤ ((g3.take q).map V.str).length := by rw [List.length_map, List.length_take]; omega
            obtain ⟨x9, hx9, px9⟩ := pos' l9
            refine ⟨_, _, _, f', rfl, S, old, eLM, kM, eDM, bd', fun _ => ?_, fun h => ?_⟩
            · rcases hi with ⟨rfl, rfl, rfl⟩ | ⟨rfl, rfl, rfl⟩
              · exact ⟨x9, hx9, px9⟩
              · obtain ⟨z, hz, pz⟩ := in1 (Nat.le_refl _)
                exact ⟨z, hz, by rw [same' z (fun hr => nd2.2.2 z hz z hr rfl)]; exact pz⟩
            · rcases hi with ⟨rfl, rfl, rfl⟩ | ⟨rfl, rfl, rfl⟩
              · omega
              · exact ⟨x9, hx9, px9⟩
        obtain ⟨v7, v8, v9, f, rfl, S, old, eLM, kM, eDM, bd, in1, in2⟩ := z
        obtain ⟨x, hx, px⟩ := in1 (by show 1 ≤ 2; decide)
        obtain ⟨y, hy, py⟩ := in2 (by show 2 ≤ 2; decide)
        have gM' : Go s c H M' := ⟨fun b u n1 n2 e => old b u n1 n2 e, S⟩
        have hgM' := gM'.lst hS hg ngc
        have hrl' := gM'.lst hS hrl nrc
        -- the row
        refine ⟨_, rfl, _, rfl, g, rfl, ⟨_, SqL.of hgM'⟩, fun E1 hE1 => ?_⟩
        refine lc_list (xs := gs.map V.str) (Lc M' E1 (rowV (gs.map f))) (Lc.zero hE1) (fun i N _ z => SqL.of (z.1 _ _ hgM')) (fun i y N hy z => ?_) (fun N z => ?_)
        · obtain ⟨good, hgd, rfl⟩ := getM hy
          have mg := List.mem_of_getElem? hgd
          have dg : DGet N d (.str good) (some (.int (f good))) := by rw [← get_Drow mg]; exact DGet.k (k := Sum.inr good) (z.1 _ _ eDM)
          refine ⟨rfl, _, rfl, _, rfl, d, _, rfl, dg, ?_⟩
          exact Lc.lay hE1 z (mapM (mapM hgd)) (by rw [List.length_map, List.length_map]; omega)
        have ⟨sN, eN⟩ := z.all (by rw [List.length_map, List.length_map, List.length_map])
        refine ⟨E1, _, rfl, .inl ⟨SqL.of eN, fun tq htq => ⟨(by show 1 ≤ sizeLine; decide), fun L1 hL1 => ?_⟩⟩⟩
        have sq := same_new htq (.tup (rowV (gs.map f)))
        have sL1 := same_new hL1 (.lst [.ref tq])
        have sAll := sN.trans (sq.trans sL1)
        have eq1 := sL1 _ _ (upd_same (H := N) (a := tq) (o := .tup (rowV (gs.map f))))
        have eL1 := upd_same (H := L2.upd N tq (.tup (rowV (gs.map f)))) (a := L1) (o := .lst [.ref tq])
        generalize L2.upd (L2.upd N tq (.tup (rowV (gs.map f)))) L1 (.lst [.ref tq]) = NL at sAll eq1 eL1 ⊢
        refine ⟨rl, L1, _, _, rfl, rfl, sAll _ _ hrl', eL1, ?_, fun rl2 hrl2 => ?_⟩
        · rw [List.length_map, aR.1]; exact small (by show rows.length + 1 ≤ 1000; omega)
        have s9 := same_new hrl2 (.lst (rs.map V.ref ++ [.ref tq]))
        have gM2 := gM'.then (sAll.trans s9)
        have erl2 := upd_same (H := NL) (a := rl2) (o := .lst (rs.map V.ref ++ [.ref tq]))
        have nrc2 : rl2 ≠ c := ((gM'.src.same sAll).ne_none hrl2).2
        have eq2 := s9 _ _ eq1
        generalize L2.upd NL rl2 (.lst (rs.map V.ref ++ [.ref tq])) = M9 at gM2 erl2 eq2 ⊢
        have erl3 : M9 rl2 = some (.lst ((rs ++ [tq]).map V.ref)) := by rw [List.map_append]; exact erl2
        have aR2 : AllAt (RowAt M9) (rs ++ [tq]) (rows ++ [gs.map f]) := (aR.imp fun p x z => KT.go hS gM2 _ _ z).snoc eq2
        have okR2 : ∀ r ∈ rows ++ [gs.map f], RowG gs.length r := fun r0 hr0 => by
          rcases List.mem_append.mp hr0 with h' | h'
          · exact okR r0 h'
          · rw [List.mem_singleton.mp h']
            exact ⟨⟨List.length_map _, mixed_of hsg (sub x (List.mem_append_left _ hx)) (sub y (List.mem_append_right _ hy)) px py⟩, fun e he => by
            obtain ⟨z, _, rfl⟩ := List.mem_map.mp he
            exact bd z⟩
        have lR2 : (rows ++ [gs.map f]).length ≤ rows.length + 1 := by rw [List.length_append]; exact Nat.le_refl _
        have haM := gM2.lst hS ha0 na0c
        refine ⟨_, rfl, _, rfl, a0, _, _, _, rfl, rfl, SqL.of haM, atI_nat (j := 0) rfl, _, rfl, _, rfl, _, rfl, s, c, g, rl2, l, sh, ll, gs, (rs ++ [tq]), (rows ++ [gs.map f]), rfl, gM2.src, tl.same (cut_go gM2), nd2.1, fun x hx => sub x (List.mem_append_left _ hx), gM2.lst hS hg ngc, ngc, ndg, lg, hsh, erl3, nrc2, aR2, okR2, by have := lR2; have := tr.pos; omega, fun rl3 rs3 rows3 M3 g3 n3 e3 a3 ok3 l3 => ?_⟩
        have gM3 := gM2.trans g3
        have haM3 := gM3.lst hS ha0 na0c
        refine ⟨_, rfl, _, rfl, a0, _, _, _, rfl, rfl, SqL.of haM3, atI_nat (j := 1) rfl, _, rfl, _, rfl, _, rfl, s, c, g, rl3, r, sh, lr, gs, rs3, rows3, rfl, gM3.src, tr.same (cut_go gM3), nd2.2.1, fun x hx => sub x (List.mem_append_right _ hx), gM3.lst hS hg ngc, ngc, ndg, lg, hsh, e3, n3, a3, ok3, by have := lR2; omega, fun rl4 rs4 rows4 M4 g4 n4 e4 a4 ok4 l4 => ?_⟩
        exact k rl4 rs4 rows4 M4 (gM3.trans g4) n4 e4 a4 ok4 (by have := lR2; rw [List.length_append]; omega)
end
end My

namespace My
open PySem PySem.Spec PyProof.Rows L2
theorem Src.ne_ins {H : Hp} {s c a : Addr} {C dx : Addr} {fs : List (Str × V)} (h : Src H s c) (e : H a = some (.ins C dx fs)) : a ≠ s ∧ a ≠ c := by
  obtain ⟨l, m, t, ns, h⟩ := h
  exact ⟨ne_of e h.hs (by intro z; cases z), ne_of e h.hc (by intro z; cases z)⟩
theorem Src.ne_lst {H : Hp} {s c a : Addr} {xs : List V} (h : Src H s c) (e : H a = some (.lst xs)) : a ≠ s := by
  obtain ⟨l, m, t, ns, h⟩ := h
  exact ne_of e h.hs (by intro z; cases z)
/-! ### the world: a dict of goods, barters and the book -/
def wldD (g l x : Addr) : List (Key × V) := [(.inr "goods", .ref g), (.inr "barters", .ref l), (.inr "book", .ref x)]
theorem k_gb : ¬ ((Sum.inr "goods" : Key) = (Sum.inr "barters" : Key)) := by decide +kernel
theorem k_gk : ¬ ((Sum.inr "goods" : Key) = (Sum.inr "book" : Key)) := by decide +kernel
theorem k_bk : ¬ ((Sum.inr "barters" : Key) = (Sum.inr "book" : Key)) := by decide +kernel
theorem k_gt : ¬ ((Sum.inr "goods" : Key) = (Sum.inr "tree" : Key)) := by decide +kernel
theorem k_bt : ¬ ((Sum.inr "barters" : Key) = (Sum.inr "tree" : Key)) := by decide +kernel
theorem k_kt : ¬ ((Sum.inr "book" : Key) = (Sum.inr "tree" : Key)) := by decide +kernel
theorem w_goods (g l x : Addr) (ex : List (Key × V)) : valV (wldD g l x ++ ex) (Sum.inr "goods") = some (.ref g) := valV_pos rfl
theorem w_barters (g l x : Addr) (ex : List (Key × V)) : valV (wldD g l x ++ ex) (Sum.inr "barters") = some (.ref l) := by
  show valV (((Sum.inr "goods" : Key), V.ref g) :: ((Sum.inr "barters" : Key), V.ref l) :: ((Sum.inr "book" : Key), V.ref x) :: ex) _ = _
  rw [valV_neg k_gb]; exact valV_pos rfl
theorem w_book (g l x : Addr) (ex : List (Key × V)) : valV (wldD g l x ++ ex) (Sum.inr "book") = some (.ref x) := by
  show valV (((Sum.inr "goods" : Key), V.ref g) :: ((Sum.inr "barters" : Key), V.ref l) :: ((Sum.inr "book" : Key), V.ref x) :: ex) _ = _
  rw [valV_neg k_gk, valV_neg k_bk]; exact valV_pos rfl
theorem wld_made (g l x : Addr) : mergeK [] (wldD g l x) = wldD g l x := by
  have p1 : putK ([] : List (Key × V)) (Sum.inr "goods" : Key) (V.ref g) = [((Sum.inr "goods" : Key), V.ref g)] := by rw [putK_new _ valV_nil]; rfl
  have p2 : putK ([((Sum.inr "goods" : Key), V.ref g)] : List (Key × V)) (Sum.inr "barters" : Key) (V.ref l) = [((Sum.inr "goods" : Key), V.ref g), ((Sum.inr "barters" : Key), V.ref l)] := by
    rw [putK_new _ (by rw [valV_neg k_gb, valV_nil])]; rfl
  have p3 : putK ([((Sum.inr "goods" : Key), V.ref g), ((Sum.inr "barters" : Key), V.ref l)] : List (Key × V)) (Sum.inr "book" : Key) (V.ref x) = wldD g l x := by
    rw [putK_new _ (by rw [valV_neg k_gk, valV_neg k_bk, valV_nil])]; rfl
  show putK (putK (putK [] (Sum.inr "goods" : Key) (V.ref g)) (Sum.inr "barters" : Key) (V.ref l)) (Sum.inr "book" : Key) (V.ref x) = wldD g l x
  rw [p1, p2, p3]
theorem wld_tree (g l x : Addr) (v : V) : putK (wldD g l x) (Sum.inr "tree") v = wldD g l x ++ [((Sum.inr "tree" : Key), v)] := by
  refine putK_new _ ?_
  show valV [((Sum.inr "goods" : Key), V.ref g), ((Sum.inr "barters" : Key), V.ref l), ((Sum.inr "book" : Key), V.ref x)] _ = none
  rw [valV_neg k_gt, valV_neg k_bt, valV_neg k_kt, valV_nil]
structure WorldX (C : Addr) (M : Hp) (wd g l x : Addr) (ps : List Addr) (ex : List (Key × V)) (gs : List Str) (bs : List Br) : Prop where
  hw : M wd = some (.dK (wldD g l x ++ ex))
  hg : M g = some (.lst (gs.map V.str))
  hl : M l = some (.lst (ps.map V.ref))
  hb : BrsAt M ps bs
  bk : BookH C M x gs bs
  G : GoodBk gs bs
theorem WorldX.same {C : Addr} {M M' : Hp} {wd g l x : Addr} {ps : List Addr} {ex : List (Key × V)} {gs : List Str} {bs : List Br} (h : WorldX C M wd g l x ps ex gs bs) (e : Same M M') : WorldX C M' wd g l x ps ex gs bs :=
  ⟨e _ _ h.hw, e _ _ h.hg, e _ _ h.hl, h.hb.same e, h.bk.same e, h.G⟩
/-- a world apart from the source of draws -/
def WorldH (C s c : Addr) (H : Hp) (wd : Addr) (gs : List Str) (bs : List Br) : Prop := ∃ g l x ps ex, WorldX C (cutH s c H) wd g l x ps ex gs bs
theorem WorldH.go {C s c : Addr} {H H' : Hp} {wd : Addr} {gs : List Str} {bs : List Br} (h : WorldH C s c H wd gs bs) (g : Go s c H H') : WorldH C s c H' wd gs bs := by
  obtain ⟨g', l, x, ps, ex, h⟩ := h
  exact ⟨g', l, x, ps, ex, h.same (cut_go g)⟩
def spMade (C : Addr) : Sp := fun vs H Q _ => ∃ (g l : Addr) (ps : List Addr) (gs : List Str) (bs : List Br), vs = [.ref g, .ref l] ∧ H g = some (.lst (gs.map V.str)) ∧ H l = some (.lst (ps.map V.ref)) ∧ BrsAt H ps bs ∧ GoodBk gs bs ∧
  ∀ (wd x : Addr) (H' : Hp), Same H H' → H wd = none → WorldX C H' wd g l x ps [] gs bs → (∀ s c, Src H s c → g ≠ c → l ≠ c → WorldX C (cutH s c H') wd g l x ps [] gs bs) → Q (.ref wd) H'
def spAnyRow : Sp := fun vs H Q _ => ∃ (s c : Addr) (n : Nat), vs = [.ref s, .int (n : Nat)] ∧ Src H s c ∧ 2 ≤ n ∧ n ≤ 20 ∧
  ∀ (p : Addr) (r : List Int) (H' : Hp), Go s c H H' → H' p = some (.tup (rowV r)) → r.length = n → mixedB r = true → smallR r → Q (.ref p) H'
theorem rowV_app (r : List Int) (m : Int) : rowV (r ++ [m]) = rowV r ++ [.int m] := List.map_append
theorem rowV_set (r : List Int) (i : Nat) (m : Int) : rowV (r.set i m) = (rowV r).set i (.int m) := List.map_set
theorem ixN_nat {n i : Nat} (h : i < n) : ixN n (i : Int) = some i := by
  unfold ixN
  rw [if_pos (Int.natCast_nonneg i), if_pos (by omega)]
  rfl
theorem perm_rng {ys : List V} {n : Nat} (h : ys.Perm (rgV 0 (n : Int))) (n2 : 2 ≤ n) : ∃ i0 i1 : Nat, i0 < n ∧ i1 < n ∧ i0 ≠ i1 ∧ atI ys 0 = some (.int (i0 : Nat)) ∧ atI ys 1 = some (.int (i1 : Nat)) := by
  have e : rgV 0 (n : Int) = (List.range n).map (fun (i : Nat) => V.int (i : Nat)) := by
    unfold rgV
    rw [Int.sub_zero, Int.toNat_natCast]
    exact List.map_congr_left fun i _ => by rw [Int.zero_add]
  rw [e] at h
  have nd : ys.Nodup := by
    rw [h.nodup_iff]
    exact List.Pairwise.map _ (fun a b hab z => hab (by have := V.int.inj z; omega)) List.nodup_range
  have ly : ys.length = n := by rw [h.length_eq, List.length_map, List.length_range]
  have at' : ∀ j, j < n → ∃ i : Nat, i < n ∧ ys[j]? = some (.int (i : Nat)) := fun j hj => by
    have hj' : j < ys.length := by omega
    obtain ⟨i, hi, ei⟩ := List.mem_map.mp (h.mem_iff.mp (List.getElem_mem hj'))
    exact ⟨i, List.mem_range.mp hi, by rw [List.getElem?_eq_getElem hj', ei]⟩
  obtain ⟨i0, h0, e0⟩ := at' 0 (by omega)
  obtain ⟨i1, h1, e1⟩ := at' 1 (by omega)
  refine ⟨i0, i1, h0, h1, fun z => ?_, atI_nat (j := 0) e0, atI_nat (j := 1) e1⟩
  subst z
  obtain ⟨l0, q0⟩ := List.getElem?_eq_some_iff.mp e0
  obtain ⟨l1, q1⟩ := List.getElem?_eq_some_iff.mp e1
  have := (List.getElem_inj nd).mp (q0.trans q1.symm)
  omega
theorem mixed_set {r : List Int} {i0 i1 : Nat} {u v : Int} (h0 : i0 < r.length) (h1 : i1 < r.length) (n : i0 ≠ i1) (hu : 0 < u) (hv : v < 0) : mixedB ((r.set i0 u).set i1 v) = true := by
  unfold mixedB
  rw [Bool.and_eq_true, List.any_eq_true, List.any_eq_true]
  refine ⟨⟨v, ?_, decide_eq_true hv⟩, ⟨u, ?_, decide_eq_true hu⟩⟩
  · exact List.mem_of_getElem? (i := i1) (by rw [List.getElem?_set_self (by rw [List.length_set]; exact h1)])
  · exact List.mem_of_getElem? (i := i0) (by rw [List.getElem?_set_ne n.symm, List.getElem?_set_self h0])
section
variable {P : Program} {w : World} {K : PySem.W.Frag} {mg : Str → Option Value} {base : Heap}
theorem ok_made (T : Tx K mg) : FnOk P w K mg base CX0 7 T.a_law_made T.fd_law_made ["_law_goods", "_law_barters"] (spMade T.C_Book) := by
  refine T.F_law_made.ok sc_law_made (fun vs H Q E h => ?_) (fun cdv A outer st H vs Q E hr h => ?_)
  · obtain ⟨g, l, ps, gs, bs, rfl, _⟩ := h
    rfl
  obtain ⟨g, l, ps, gs, bs, rfl, hg, hl, hb, G, k⟩ := h
  have G_Book_init : FnOk P w K mg base CX0 5 T.a_Book_init T.fd_Book_init ["self", "goods", "barters"] (spInit34 T.C_Book) := ok_Book_init T
  have hr_Book_init : Room 6 _ := hr
  refine ⟨_, ((pss_one (ps_ret (pe_disp (pps_cons pe_str (pv 0) (pps_cons pe_str (pv 1) (pps_cons pe_str (pe_make T.M_Book G_Book_init hr_Book_init rfl T.m_Book T.b_Book_init .nil pass0 (pa_cons (pv 0) (pa_cons (pv 1) pa_nil))) pps_nil))) (by rfl) (by rfl) (fun z => by cases z) (by decide))))), ?_⟩
  intro wd hwd
  have s1 := same_new hwd (.dK [])
  refine ⟨_, rfl, _, rfl, _, rfl, _, rfl, fun x dx hx hdx ndx => ?_⟩
  have e1 : (L2.upd H wd (.dK [])) wd = some (.dK []) := upd_same
  generalize L2.upd H wd (.dK []) = H1 at s1 e1 hx hdx ⊢
  have s2 := (same_new hdx (.own x)).trans (same_new (H := L2.upd H1 dx (.own x)) (p := x) (by rw [upd_ne ndx.symm]; exact hx) (.ins T.C_Book dx []))
  have ex : (L2.upd (L2.upd H1 dx (.own x)) x (.ins T.C_Book dx [])) x = some (.ins T.C_Book dx []) := upd_same
  generalize L2.upd (L2.upd H1 dx (.own x)) x (.ins T.C_Book dx []) = H2 at s2 ex ⊢
  have s12 := s1.trans s2
  refine ⟨x, g, l, dx, ps, gs, bs, rfl, ex, s12 _ _ hg, s12 _ _ hl, hb.same s12, G, fun H3 keep bk => ⟨rfl, ?_⟩⟩
  have nwx : wd ≠ x := fun z => by rw [z, hx] at e1; cases e1
  have e3 : H3 wd = some (.dK []) := keep _ _ nwx (s2 _ _ e1)
  refine ⟨e3, wldD g l x, rfl, (by show 3 ≤ 15; decide), ?_⟩
  rw [wld_made]
  have sx : H x = none := s1.free hx
  have s3 : Same H (L2.upd H3 wd (.dK (wldD g l x))) := fun b u e => by
    rw [upd_ne (ne_of_none e hwd)]
    exact keep _ _ (ne_of_none e sx) (s12 _ _ e)
  obtain ⟨dx', tg, tb, dg, db, qs, n1, n2, b1, b2, b3, b4, b5, b6⟩ := bk
  have nd1 : dg ≠ wd := fun z => by rw [z, s2 _ _ e1] at n1; cases n1
  have nd2 : db ≠ wd := fun z => by rw [z, s2 _ _ e1] at n2; cases n2
  have kt : KT H3 (L2.upd H3 wd (.dK (wldD g l x))) := fun b xs e => by
    rw [upd_ne (fun z => by rw [z, e3] at e; cases e)]; exact e
  have bk4 : BookH T.C_Book (L2.upd H3 wd (.dK (wldD g l x))) x gs bs := ⟨dx', tg, tb, dg, db, qs, by rw [upd_ne nwx.symm]; exact b1, kt _ _ b2, kt _ _ b3, b4.kt kt, by rw [upd_ne nd1]; exact b5, by rw [upd_ne nd2]; exact b6⟩
  have W : WorldX T.C_Book (L2.upd H3 wd (.dK (wldD g l x))) wd g l x ps [] gs bs := ⟨by rw [List.append_nil]; exact upd_same, s3 _ _ hg, s3 _ _ hl, hb.same s3, bk4, G⟩
  refine k wd x _ s3 hwd W fun s c S ngc nlc => ?_
  have S3 := S.same s3
  have hT : ∀ {b : Addr} {xs : List V}, (L2.upd H3 wd (.dK (wldD g l x))) b = some (.tup xs) → cutH s c (L2.upd H3 wd (.dK (wldD g l x))) b = some (.tup xs) := fun e => cut_in (S3.ne_tup e) e
  have hBr : ∀ {ps : List Addr}, BrsAt (L2.upd H3 wd (.dK (wldD g l x))) ps bs → BrsAt (cutH s c (L2.upd H3 wd (.dK (wldD g l x)))) ps bs := fun h => h.kt fun b xs e => hT e
  refine ⟨cut_in (S.ne_none hwd) W.hw, cut_in ⟨S3.ne_lst W.hg, ngc⟩ W.hg, cut_in ⟨S3.ne_lst W.hl, nlc⟩ W.hl, hBr W.hb, ?_, G⟩
  exact ⟨dx', tg, tb, dg, db, qs, cut_in (S3.ne_ins (by rw [upd_ne nwx.symm]; exact b1)) (by rw [upd_ne nwx.symm]; exact b1), hT (kt _ _ b2), hT (kt _ _ b3), hBr (b4.kt kt), cut_in (S.ne_none (s12.free n1)) (by rw [upd_ne nd1]; exact b5), cut_in (S.ne_none (s12.free n2)) (by rw [upd_ne nd2]; exact b6)⟩
theorem ok_any_row (T : Tx K mg) : FnOk P w K mg base CX0 3 T.a_law_any_row T.fd_law_any_row ["_law_source_here", "_law_size"] spAnyRow := by
  refine T.F_law_any_row.ok sc_law_any_row (fun vs H Q E h => ?_) (fun cdv A outer st H vs Q E hr h => ?_)
  · obtain ⟨s, c, n, rfl, _⟩ := h
    rfl
  obtain ⟨s, c, n, rfl, hS, n2, n20, k⟩ := h
  have G_law_pick : FnOk P w K mg base CX0 1 T.a_law_pick T.fd_law_pick ["_law_source_here", "_law_many"] spPick := ok_pick T
  have hr_law_pick : Room 1 _ := hr.mono (by omega)
  have G_law_of : FnOk P w K mg base CX0 2 T.a_law_of T.fd_law_of ["_law_source_here", "_law_some"] (spOf K) := ok_of T
  have hr_law_of : Room 2 _ := hr
  have G_law_mixed : FnOk P w K mg base CX0 2 T.a_law_mixed T.fd_law_mixed ["_law_source_here", "_law_things"] spMixed := ok_mixed T
  have hr_law_mixed : Room 2 _ := hr
  refine ⟨_, ((pss_cons (ps_setLc (i := 2) (own := [("_law_k", 4)]) (by rfl) sc_law_any_row.nd rfl rfl (sw_true rfl rfl rfl (by decide +kernel)) (pi_range1 rfl T.n_range (pa_cons (pv 1) pa_nil)) (blkOk_by (own := [("_law_k", 4)]) (N := ["_law_source_here", "_law_size", "_law_row", "_law_here", "_law_k"]) (sc := defScope s_law_any_row) (by decide +kernel)) (fun _ _ _ _ _ => pg_name (i := 4) sc_law_any_row.nd rfl (Or.inl rfl)) (fun _ _ _ _ _ => pts_nil) (fun _ _ _ _ _ => (pe_call G_law_of hr_law_of rfl T.m_law_of T.F_law_of.kp T.b_law_of .nil pass0 (pa_cons (pv 0) (pa_cons (pe_lst (pa_cons pe_int (pa_cons pe_int (pa_cons pe_int (pa_cons pe_int (pa_cons (pe_un un_neg pe_int) (pa_cons pe_int (pa_cons (pe_un un_neg pe_int) (pa_cons pe_int (pa_cons (pe_un un_neg pe_int) (pa_cons pe_int pa_nil))))))))))) pa_nil)))))
      (pss_cons (ps_set (i := 3) sc_law_any_row.nd rfl (Or.inl rfl) (pe_call G_law_mixed hr_law_mixed rfl T.m_law_mixed T.F_law_mixed.kp T.b_law_mixed .nil pass0 (pa_cons (pv 0) (pa_cons (pe_listRg rfl (by rfl) T.n_list (prg_1 (by rfl) T.n_range (pv 1))) pa_nil))))
      (pss_cons (ps_asg (pe_tup (pa_cons (pe_op op_add pe_int (pe_call G_law_pick hr_law_pick rfl T.m_law_pick T.F_law_pick.kp T.b_law_pick .nil pass0 (pa_cons (pv 0) (pa_cons pe_int pa_nil)))) (pa_cons (pe_op op_sub (pe_op op_sub pe_int pe_int) (pe_call G_law_pick hr_law_pick rfl T.m_law_pick T.F_law_pick.kp T.b_law_pick .nil pass0 (pa_cons (pv 0) (pa_cons pe_int pa_nil)))) pa_nil))) (pg_tup rfl (pgs_cons (pg_sub (pv 2) (pe_ix (show IxR _ (rIxL K) from ix_list) (pv 3) pe_int (fun _ _ => rfl)) set_list) (pgs_cons (pg_sub (pv 2) (pe_ix (show IxR _ (rIxL K) from ix_list) (pv 3) pe_int (fun _ _ => rfl)) set_list) pgs_nil))))
      (pss_one (ps_ret (pe_callTy call_tuple_of (by rfl) T.n_tuple (by decide +kernel) (pa_cons (pv 2) pa_nil)))))))), ?_⟩
  refine ⟨_, rfl, _, rfl, by omega, by omega, fun D hD => ?_⟩
  have nD := hS.ne_none hD
  refine lc_range (lo := 0) (n := n) (fun i M => ∃ r : List Int, (∀ b u, b ≠ s → b ≠ c → H b = some u → M b = some u) ∧ Src M s c ∧ M D = some (.lst (rowV r)) ∧ r.length = i ∧ smallR r) ⟨[], fun b u _ _ e => same_new hD _ _ _ e, hS.same (same_new hD _), upd_same, rfl, (fun _ h => nomatch h)⟩ (fun i M hi z => ?_) (fun M z => ?_)
  · obtain ⟨r, old, S, eD, lr, sr⟩ := z
    refine ⟨rfl, _, rfl, 1, rfl, 1, rfl, 2, rfl, (by show 10 ≤ sizeLine; decide), fun p hp => ?_⟩
    have sp := same_new hp (.lst [.int 0, .int 0, .int 0, .int 1, .int (-1), .int 1, .int (-1), .int 2, .int (-2), .int 3])
    refine ⟨s, c, p, _, rfl, S.same sp, upd_same, (S.ne_none hp).2, by show 1 ≤ 10; decide, by show 10 < 1000000; decide, fun i4 x4 N4 hx4 u4 => ?_⟩
    obtain ⟨m, rfl, hm⟩ : ∃ m : Int, x4 = .int m ∧ -4 ≤ m ∧ m ≤ 4 := by
      have := List.mem_of_getElem? hx4
      simp only [List.mem_cons, List.not_mem_nil, or_false] at this
      rcases this with rfl | rfl | rfl | rfl | rfl | rfl | rfl | rfl | rfl | rfl <;> exact ⟨_, rfl, by decide, by decide⟩
    have u5 := (Go.of S sp).trans u4
    have eD5 := u5.lst S eD nD.2
    refine ⟨_, eD5, by rw [List.length_map, lr]; exact small1000 (by omega), r ++ [m], fun b u n1 n2 e => ?_, u5.src.upd6 nD, by rw [upd_same, rowV_app], by rw [List.length_append, lr]; rfl, fun e he => (List.mem_append.mp he).elim (sr e) (fun h => by rw [List.mem_singleton.mp h]; exact hm)⟩
    rw [upd_ne (ne_of_none e hD)]
    exact u5.keep _ _ n1 n2 (old b u n1 n2 e)
  · obtain ⟨r, old, S, eD, lr, sr⟩ := z
    have g1 : Go s c H M := ⟨fun b u n1 n2 e => old b u n1 n2 e, S⟩
    refine ⟨_, rfl, _, rfl, _, rfl, ⟨by omega, by omega, by omega, by omega, by omega⟩, fun q hq => ?_⟩
    have sq := same_new hq (.lst (rgV 0 (n : Int)))
    refine ⟨s, c, q, _, rfl, S.same sq, upd_same, ?_, fun D2 ys M2 g2 hD2 e2 pm => ?_⟩
    · unfold rgV; rw [List.length_map, List.length_range]; omega
    obtain ⟨i0, i1, h0, h1, nn, a0, a1⟩ := perm_rng pm n2
    have nD2 := (S.same sq).ne_none hD2
    have gA := (Go.of S sq).trans g2
    refine ⟨_, rfl, s, c, 3, rfl, g2.src, by decide, by decide, fun j M3 j0 j1 g3 => ⟨_, _, rfl, rfl, _, _, rfl, rfl, _, rfl, s, c, 3, rfl, g3.src, by decide, by decide, fun j' M4 j0' j1' g4 => ⟨_, _, rfl, rfl, (by show 2 ≤ sizeLine; decide), fun tp htp => ?_⟩⟩⟩
    have g34 := g3.trans g4
    have gB := (gA.trans g34).then (same_new htp (.tup [.int (1 + j), .int (0 - 1 - j')]))
    have eD5 := gB.lst S eD nD.2
    have e25 := (g34.then (same_new htp (.tup [.int (1 + j), .int (0 - 1 - j')]))).lst g2.src e2 nD2.2
    refine ⟨tp, _, rfl, SqT.of upd_same, rfl, _, _, rfl, ?_⟩
    generalize L2.upd M4 tp (.tup [.int (1 + j), .int (0 - 1 - j')]) = M5 at gB eD5 e25 ⊢
    have nDD : D2 ≠ D := fun z => by
      have q := sq _ _ eD
      rw [← z, hD2] at q
      cases q
    refine ⟨_, rfl, _, rfl, D2, _, _, _, rfl, rfl, SqL.of e25, a0, D, _, _, i0, rfl, rfl, eD5, by rw [List.length_map, lr]; exact ixN_nat h0, ?_⟩
    refine ⟨_, _, rfl, _, rfl, _, rfl, D2, _, _, _, rfl, rfl, SqL.of (by rw [upd_ne nDD]; exact e25), a1, D, _, _, i1, rfl, rfl, upd_same, by rw [List.length_set, List.length_map, lr]; exact ixN_nat h1, rfl, ?_⟩
    have er : ((rowV r).set i0 (.int (1 + j))).set i1 (.int (0 - 1 - j')) = rowV ((r.set i0 (1 + j)).set i1 (0 - 1 - j')) := by rw [rowV_set, rowV_set]
    rw [er]
    refine ⟨_, rfl, D, _, rfl, .inl ⟨SqL.of upd_same, fun p hp => ?_⟩⟩
    refine k p _ _ ⟨fun b u n1 n2 e => ?_, ?_⟩ upd_same (by rw [List.length_set, List.length_set, lr]) (mixed_set (by omega) (by omega) nn (by omega) (by omega)) (fun e he => by
      rcases List.mem_or_eq_of_mem_set he with h | h
      · rcases List.mem_or_eq_of_mem_set h with h | h
        · exact sr e h
        · omega
      · omega)
    · have nbD := ne_of_none e hD
      have e5 := (g1.trans gB).keep _ _ n1 n2 e
      refine same_new hp _ _ _ ?_
      rw [upd_ne nbD, upd_ne nbD]
      exact e5
    · exact ((gB.src.upd6 nD).upd6 nD).same (same_new hp _)
end
end My

namespace My
open PySem PySem.Spec PyProof.Rows L2
theorem AllAt.cons {α : Type} {R : Addr → α → Prop} {ps : List Addr} {xs : List α} {p : Addr} {x : α} (hb : R p x) (h : AllAt R ps xs) : AllAt R (p :: ps) (x :: xs) := by
  refine ⟨congrArg (· + 1) h.1, fun i q c e1 e2 => ?_⟩
  cases i with
  | zero => cases e1; cases e2; exact hb
  | succ i => exact h.2 i q c e1 e2
theorem AllAt.uncons {α : Type} {R : Addr → α → Prop} {p : Addr} {ps : List Addr} {zs : List α} (h : AllAt R (p :: ps) zs) : ∃ x xs, zs = x :: xs ∧ R p x ∧ AllAt R ps xs := by
  cases zs with
  | nil => exact nomatch h.1
  | cons x xs => exact ⟨x, xs, rfl, h.2 0 p x rfl rfl, Nat.succ.inj h.1, fun i p x h1 h2 => h.2 (i + 1) p x h1 h2⟩
theorem perm_all {α : Type} {R : Addr → α → Prop} {ys xs : List V} (h : ys.Perm xs) : ∀ {ps : List Addr} {zs : List α}, xs = ps.map V.ref → AllAt R ps zs → ∃ ps2 zs2, ys = ps2.map V.ref ∧ AllAt R ps2 zs2 ∧ zs2.Perm zs := by
  have cns : ∀ {v : V} {r : List V} {ps : List Addr}, v :: r = ps.map V.ref → ∃ p q, ps = p :: q ∧ v = .ref p ∧ r = q.map V.ref := fun {v r ps} e => by
    cases ps with
    | nil => cases e
    | cons p q => exact ⟨p, q, rfl, (List.cons.inj e).1, (List.cons.inj e).2⟩
  induction h with
  | nil =>
    intro ps zs e a
    cases ps with
    | nil => exact ⟨[], zs, rfl, a, List.Perm.refl _⟩
    | cons _ _ => cases e
  | cons v h ih =>
    intro ps zs e a
    obtain ⟨p, q, rfl, rfl, e2⟩ := cns e
    obtain ⟨x, xs, rfl, hx, a2⟩ := a.uncons
    obtain ⟨ps2, zs2, e3, a3, p3⟩ := ih e2 a2
    exact ⟨p :: ps2, x :: zs2, by rw [e3]; rfl, AllAt.cons hx a3, p3.cons x⟩
  | swap u v r =>
    intro ps zs e a
    obtain ⟨p, q, rfl, rfl, e2⟩ := cns e
    obtain ⟨p2, q2, rfl, rfl, e3⟩ := cns e2
    obtain ⟨x, xs, rfl, hx, a2⟩ := a.uncons
    obtain ⟨x2, xs2, rfl, hx2, a3⟩ := a2.uncons
    exact ⟨p2 :: p :: q2, x2 :: x :: xs2, by rw [e3]; rfl, AllAt.cons hx2 (AllAt.cons hx a3), List.Perm.swap _ _ _⟩
  | trans _ _ ih1 ih2 =>
    intro ps zs e a
    obtain ⟨ps2, zs2, e2, a2, p2⟩ := ih2 e a
    obtain ⟨ps3, zs3, e3, a3, p3⟩ := ih1 e2 a2
    exact ⟨ps3, zs3, e3, a3, p3.trans p2⟩
theorem kvN_wld {xs : List Str} {g l x : Addr} {ex : List (Key × V)} : kvN xs ≠ wldD g l x ++ ex := by
  intro e
  cases xs with
  | nil => cases e
  | cons y r =>
    have h : (kvN (y :: r)).head? = some ((Sum.inr y : Key), V.int 0) := by unfold kvN; rw [List.mapIdx_cons]; rfl
    rw [e] at h
    have h : ((Sum.inr "goods" : Key), V.ref g) = ((Sum.inr y : Key), V.int 0) := Option.some.inj h
    cases (Prod.mk.inj h).2
theorem cut_upd {s c wd : Addr} {M : Hp} {o : HO} (n : wd ≠ s ∧ wd ≠ c) : cutH s c (L2.upd M wd o) = L2.upd (cutH s c M) wd o := by
  funext b
  by_cases e : b = wd
  · subst e
    rw [upd_same]
    exact cut_in n upd_same
  · rw [upd_ne e]
    unfold cutH
    rw [upd_ne e]
theorem WorldX.tree {C : Addr} {M : Hp} {wd g l x : Addr} {ps : List Addr} {ex ex' : List (Key × V)} {gs : List Str} {bs : List Br} (h : WorldX C M wd g l x ps ex gs bs) : WorldX C (L2.upd M wd (.dK (wldD g l x ++ ex'))) wd g l x ps ex' gs bs := by
  have nd : ∀ {b : Addr} {o : HO}, M b = some o → (∀ kvs, o ≠ .dK kvs) → (L2.upd M wd (.dK (wldD g l x ++ ex'))) b = some o := fun {b o} e q => by
    rw [upd_ne (fun z => by rw [z, h.hw] at e; exact q _ (Option.some.inj e).symm)]; exact e
  have kt : KT M (L2.upd M wd (.dK (wldD g l x ++ ex'))) := fun b xs e => nd e (fun _ z => by cases z)
  obtain ⟨dx', tg, tb, dg, db, qs, b1, b2, b3, b4, b5, b6⟩ := h.bk
  have nk : ∀ {b : Addr} {xs : List Str}, M b = some (.dK (kvN xs)) → (L2.upd M wd (.dK (wldD g l x ++ ex'))) b = some (.dK (kvN xs)) := fun {b xs} e => by
    rw [upd_ne (fun z => by rw [z, h.hw] at e; exact kvN_wld (HO.dK.inj (Option.some.inj e)).symm)]; exact e
  exact ⟨upd_same, nd h.hg (fun _ z => by cases z), nd h.hl (fun _ z => by cases z), h.hb.kt kt, ⟨dx', tg, tb, dg, db, qs, nd b1 (fun _ z => by cases z), kt _ _ b2, kt _ _ b3, b4.kt kt, nk b5, nk b6⟩, h.G⟩
def spBookD (C : Addr) (lo : Nat) : Sp := fun vs H Q _ => ∃ (s c : Addr) (m : Nat), vs = [.ref s, .int (m : Nat)] ∧ Src H s c ∧ lo ≤ m ∧ m ≤ 10 ∧
  ∀ (wd : Addr) (gs : List Str) (bs : List Br) (H' : Hp), Go s c H H' → WorldH C s c H' wd gs bs → gs.length ≤ 10 → bs.length ≤ 10 → ((∀ b ∈ bs, idxS b.1 < 100 ∧ smallR b.2) ∧ ∀ x ∈ gs, idxS x < 100) → Q (.ref wd) H'
/-- the numbers of a drawn stock -/
abbrev StkB (z : Int) : Prop := 0 ≤ z ∧ z < 10 ^ 39
def spStock (C : Addr) : Sp := fun vs H Q _ => ∃ (s c wd : Addr) (m : Nat) (gs : List Str) (bs : List Br), vs = [.ref s, .ref wd, .int (m : Nat)] ∧ Src H s c ∧ WorldH C s c H wd gs bs ∧ m ≤ 100 ∧ gs.length ≤ 100 ∧
  ∀ (p : Addr) (st : List Int) (H' : Hp), Go s c H H' → H' p = some (.tup (rowV st)) → st.length = gs.length → (∀ z ∈ st, 0 ≤ z ∧ z < 1000) → Q (.ref p) H'
def spDrawnStock (C : Addr) : Sp := fun vs H Q _ => ∃ (s c wd : Addr) (gs : List Str) (bs : List Br), vs = [.ref s, .ref wd] ∧ Src H s c ∧ WorldH C s c H wd gs bs ∧ gs.length ≤ 100 ∧
  ∀ (p : Addr) (st : List Int) (H' : Hp), Go s c H H' → H' p = some (.tup (rowV st)) → st.length = gs.length → (∀ z ∈ st, StkB z) → Q (.ref p) H'
section
variable {P : Program} {w : World} {K : PySem.W.Frag} {mg : Str → Option Value} {base : Heap}
theorem ok_any_book (T : Tx K mg) : FnOk P w K mg base CX0 8 T.a_law_any_book T.fd_law_any_book ["_law_source_here", "_law_most"] (spBookD T.C_Book 2) := by
  refine T.F_law_any_book.ok sc_law_any_book (fun vs H Q E h => ?_) (fun cdv A outer st H vs Q E hr h => ?_)
  · obtain ⟨s, c, m, rfl, _⟩ := h
    rfl
  obtain ⟨s, c, m, rfl, hS, m2, m10, k⟩ := h
  have G_law_pick : FnOk P w K mg base CX0 1 T.a_law_pick T.fd_law_pick ["_law_source_here", "_law_many"] spPick := ok_pick T
  have hr_law_pick : Room 1 _ := hr.mono (by omega)
  have G_law_names : FnOk P w K mg base CX0 2 T.a_law_names T.fd_law_names ["_law_source_here", "_law_many"] spNames2 := ok_names T
  have hr_law_names : Room 2 _ := hr.mono (by omega)
  have G_law_any_row : FnOk P w K mg base CX0 3 T.a_law_any_row T.fd_law_any_row ["_law_source_here", "_law_size"] spAnyRow := ok_any_row T
  have hr_law_any_row : Room 3 _ := hr.mono (by omega)
  have G_law_made : FnOk P w K mg base CX0 7 T.a_law_made T.fd_law_made ["_law_goods", "_law_barters"] (spMade T.C_Book) := ok_made T
  have hr_law_made : Room 7 _ := hr
  refine ⟨_, ((pss_cons (ps_set (i := 2) sc_law_any_book.nd rfl (Or.inr rfl) (pe_call G_law_names hr_law_names rfl T.m_law_names T.F_law_names.kp T.b_law_names .nil pass0 (pa_cons (pv 0) (pa_cons (pe_op op_add pe_int (pe_call G_law_pick hr_law_pick rfl T.m_law_pick T.F_law_pick.kp T.b_law_pick .nil pass0 (pa_cons (pv 0) (pa_cons (pe_op op_sub (pv 1) pe_int) pa_nil)))) pa_nil))))
      (pss_cons (ps_set (i := 3) sc_law_any_book.nd rfl (Or.inl rfl) (pe_call G_law_names hr_law_names rfl T.m_law_names T.F_law_names.kp T.b_law_names .nil pass0 (pa_cons (pv 0) (pa_cons (pe_call G_law_pick hr_law_pick rfl T.m_law_pick T.F_law_pick.kp T.b_law_pick .nil pass0 (pa_cons (pv 0) (pa_cons pe_int pa_nil))) pa_nil))))
      (pss_one (ps_ret (pe_call G_law_made hr_law_made rfl T.m_law_made T.F_law_made.kp T.b_law_made .nil pass0 (pa_cons (pv 2) (pa_cons (pe_lc (own := [("_law_name", 4)]) (by rfl) sc_law_any_book.nd (pi_list (pv 3)) (blkOk_by (own := [("_law_name", 4)]) (N := ["_law_source_here", "_law_most", "_law_goods", "_law_names_here", "_law_name"]) (sc := defScope s_law_any_book) (by decide +kernel)) (fun _ _ _ _ _ => pg_name (i := 4) sc_law_any_book.nd rfl (Or.inl rfl)) (fun _ _ _ _ _ => pts_nil) (fun _ _ _ _ _ => (pe_tup (pa_cons (pv 4) (pa_cons (pe_call G_law_any_row hr_law_any_row rfl T.m_law_any_row T.F_law_any_row.kp T.b_law_any_row .nil pass0 (pa_cons (pv 0) (pa_cons (pe_callB (show CallR _ (.builtin "len") (rLenK K) from call_lenK) (by rfl) T.n_len (by decide +kernel) (pa_cons (pv 2) pa_nil)) pa_nil))) pa_nil))))) pa_nil)))))))), ?_⟩
  refine ⟨_, rfl, _, rfl, _, rfl, _, _, rfl, rfl, s, c, _, rfl, hS, by omega, by omega, fun j M1 j0 j1 g1 => ⟨_, _, rfl, rfl, ?_⟩⟩
  obtain ⟨jn, rfl⟩ : ∃ jn : Nat, j = (jn : Int) := ⟨j.toNat, by omega⟩
  have e1 : (2 + (jn : Int)) = ((2 + jn : Nat) : Int) := by omega
  refine ⟨s, c, 2 + jn, by show [_, V.int (2 + (jn : Int))] = _; rw [e1], g1.src, by omega, fun a gs M2 g2 ha ea gw gl gn gi => ?_⟩
  have na := g1.src.ne_none ha
  refine ⟨_, rfl, _, rfl, s, c, 5, rfl, g2.src, by decide, by decide, fun j5 M3 k0 k1 g3 => ?_⟩
  obtain ⟨jn5, rfl⟩ : ∃ jn : Nat, j5 = (jn : Int) := ⟨j5.toNat, by omega⟩
  refine ⟨s, c, jn5, rfl, g3.src, by omega, fun b ns M4 g4 hb eb nw nl nn ni => ?_⟩
  have nb := g3.src.ne_none hb
  have ea4 := (g3.trans g4).lst g2.src ea na.2
  have G14 := (g1.trans g2).trans (g3.trans g4)
  have S4 := g4.src
  refine ⟨_, rfl, _, rfl, b, rfl, ⟨_, SqL.of eb⟩, fun D hD => ?_⟩
  have nD := S4.ne_none hD
  refine lc_list (xs := ns.map V.str) (fun i M => ∃ (ps : List Addr) (bs : List Br), (∀ b u, b ≠ s → b ≠ c → M4 b = some u → M b = some u) ∧ Src M s c ∧ M D = some (.lst (ps.map V.ref)) ∧ BrsAt M ps bs ∧ bs.map (·.1) = ns.take i ∧ ∀ b ∈ bs, RowG gs.length b.2)
    ⟨[], [], fun b u _ _ e => same_new hD _ _ _ e, S4.same (same_new hD _), upd_same, BrsAt.nil, rfl, fun _ h => nomatch h⟩ (fun i M _ ⟨_, _, old, S, _⟩ => SqL.of (old _ _ nb.1 nb.2 eb)) (fun i y M hy z => ?_) (fun M z => ?_)
  · obtain ⟨ps, bs, old, S, eD, bM, bn, bo⟩ := z
    obtain ⟨nm, hnm, rfl⟩ := getM hy
    have eaM := old _ _ na.1 na.2 ea4
    refine ⟨rfl, _, rfl, _, rfl, _, rfl, a, _, rfl, .inl (SqL.of eaM), s, c, gs.length, by rw [List.length_map]; rfl, S, by omega, by omega, fun p r N g5 ep lr mr sr => ?_⟩
    refine ⟨(by show 2 ≤ sizeLine; decide), fun q hq => ?_⟩
    have sq := same_new hq (.tup [.str nm, .ref p])
    have g6 := g5.then sq
    have eD6 := g6.lst S eD nD.2
    have kD := KT.upd (o := .lst (ps.map V.ref ++ [.ref q])) eD6
    have lp : ps.length = (ns.take i).length := by rw [bM.1, ← bn, List.length_map]
    refine ⟨_, eD6, ?_, ps ++ [q], bs ++ [(nm, r)], fun b u n1 n2 e => ?_, g6.src.upd6 nD, by rw [upd_same, List.map_append]; rfl, ?_, ?_, ?_⟩
    · rw [List.length_map, lp, List.length_take]; exact small1000 (by omega)
    · rw [upd_ne (ne_of_none e hD)]; exact g6.keep _ _ n1 n2 (old b u n1 n2 e)
    · exact BrsAt.snoc (bM.kt ((KT.go S g6).trans kD)) ⟨p, kD _ _ upd_same, kD _ _ (sq _ _ ep)⟩
    · rw [List.map_append, bn, ← take_snoc hnm]; rfl
    · intro b0 hb0
      rcases List.mem_append.mp hb0 with h | h
      · exact bo b0 h
      · rw [List.mem_singleton.mp h]; exact ⟨⟨lr, mr⟩, sr⟩
  · obtain ⟨ps, bs, old, S, eD, bM, bn, bo⟩ := z
    rw [List.length_map, List.take_length] at bn
    have eaM := old _ _ na.1 na.2 ea4
    have lb : bs.length = ns.length := by rw [← bn, List.length_map]
    have inN : ∀ b0 ∈ bs, b0.1 ∈ ns := fun b0 h => by rw [← bn]; exact List.mem_map.mpr ⟨b0, h, rfl⟩
    refine ⟨a, D, ps, gs, bs, rfl, eaM, eD, bM, ⟨gw, gn, by omega, fun b0 h => ⟨nw _ (inN b0 h), (bo b0 h).1⟩, by rw [bn]; exact nn, by omega⟩, fun wd x H' sH hwd W Wc => ?_⟩
    refine k wd gs bs H' ((G14.trans ⟨fun b u n1 n2 e => old b u n1 n2 e, S⟩).then sH) ⟨a, D, x, ps, [], Wc s c S na.2 nD.2⟩ (by omega) (by omega) ⟨fun b0 h => ⟨ni _ (inN b0 h), (bo b0 h).2⟩, gi⟩
theorem ok_book (T : Tx K mg) : FnOk P w K mg base CX0 14 T.a_law_book T.fd_law_book ["_law_source_here", "_law_most"] (spBookD T.C_Book 1) := by
  refine T.F_law_book.ok sc_law_book (fun vs H Q E h => ?_) (fun cdv A outer st H vs Q E hr h => ?_)
  · obtain ⟨s, c, m, rfl, _⟩ := h
    rfl
  obtain ⟨s, c, m, rfl, hS, m2, m10, k⟩ := h
  have hu := hu_of hr
  have G_law_pick : FnOk P w K mg base CX0 1 T.a_law_pick T.fd_law_pick ["_law_source_here", "_law_many"] spPick := ok_pick T
  have hr_law_pick : Room 1 _ := hr.mono (by omega)
  have G_law_of : FnOk P w K mg base CX0 2 T.a_law_of T.fd_law_of ["_law_source_here", "_law_some"] (spOf K) := ok_of T
  have hr_law_of : Room 2 _ := hr.mono (by omega)
  have G_law_names : FnOk P w K mg base CX0 2 T.a_law_names T.fd_law_names ["_law_source_here", "_law_many"] spNames2 := ok_names T
  have hr_law_names : Room 2 _ := hr.mono (by omega)
  have G_law_mixed : FnOk P w K mg base CX0 2 T.a_law_mixed T.fd_law_mixed ["_law_source_here", "_law_things"] spMixed := ok_mixed T
  have hr_law_mixed : Room 2 _ := hr.mono (by omega)
  have G_law_tree : FnOk P w K mg base CX0 13 T.a_law_tree T.fd_law_tree ["_law_source_here", "_law_goods"] (spTree 10) := ok_tree T 10
  have hr_law_tree : Room 13 _ := hr
  have G_law_forked : FnOk P w K mg base CX0 13 T.a_law_forked T.fd_law_forked ["_law_source_here", "_law_tree_here", "_law_goods", "_law_share", "_law_rows"] (spForked 10) := ok_forked T 10
  have hr_law_forked : Room 13 _ := hr
  have G_law_made : FnOk P w K mg base CX0 7 T.a_law_made T.fd_law_made ["_law_goods", "_law_barters"] (spMade T.C_Book) := ok_made T
  have hr_law_made : Room 7 _ := hr.mono (by omega)
  refine ⟨_, ((pss_cons (ps_set (i := 2) sc_law_book.nd rfl (Or.inl rfl) (pe_call G_law_names hr_law_names rfl T.m_law_names T.F_law_names.kp T.b_law_names .nil pass0 (pa_cons (pv 0) (pa_cons (pe_op op_add pe_int (pe_call G_law_pick hr_law_pick rfl T.m_law_pick T.F_law_pick.kp T.b_law_pick .nil pass0 (pa_cons (pv 0) (pa_cons (pv 1) pa_nil)))) pa_nil))))
      (pss_cons (ps_set (i := 3) sc_law_book.nd rfl (Or.inl rfl) (pe_call G_law_tree hr_law_tree rfl T.m_law_tree T.F_law_tree.kp T.b_law_tree .nil pass0 (pa_cons (pv 0) (pa_cons (pv 2) pa_nil))))
      (pss_cons (ps_set (i := 4) sc_law_book.nd rfl (Or.inl rfl) (pe_call G_law_mixed hr_law_mixed rfl T.m_law_mixed T.F_law_mixed.kp T.b_law_mixed .nil pass0 (pa_cons (pv 0) (pa_cons (pe_call G_law_forked hr_law_forked rfl T.m_law_forked T.F_law_forked.kp T.b_law_forked .nil pass0 (pa_cons (pv 0) (pa_cons (pv 3) (pa_cons (pv 2) (pa_cons (pe_call G_law_of hr_law_of rfl T.m_law_of T.F_law_of.kp T.b_law_of .nil pass0 (pa_cons (pv 0) (pa_cons (pe_lst (pa_cons pe_int (pa_cons pe_int (pa_cons pe_int pa_nil)))) pa_nil))) (pa_cons (pe_lst pa_nil) pa_nil)))))) pa_nil))))
      (pss_cons (ps_set (i := 5) sc_law_book.nd rfl (Or.inl rfl) (pe_call G_law_made hr_law_made rfl T.m_law_made T.F_law_made.kp T.b_law_made .nil pass0 (pa_cons (pv 2) (pa_cons (pe_zipL (by rfl) (by rfl) T.n_list (by rfl) T.n_zip (pa_cons (pe_call G_law_names hr_law_names rfl T.m_law_names T.F_law_names.kp T.b_law_names .nil pass0 (pa_cons (pv 0) (pa_cons (pe_callB call_len_seq (by rfl) T.n_len (by decide +kernel) (pa_cons (pv 4) pa_nil)) pa_nil))) (pa_cons (pv 4) pa_nil))) pa_nil))))
      (pss_cons (ps_dput hu (pv 5) pe_str (pv 3) rfl)
      (pss_one (ps_ret (pv 5))))))))), ?_⟩
  refine ⟨_, rfl, _, rfl, _, rfl, s, c, _, rfl, hS, by omega, by omega, fun j M1 j0 j1 g1 => ⟨_, _, rfl, rfl, ?_⟩⟩
  obtain ⟨jn, rfl⟩ : ∃ jn : Nat, j = (jn : Int) := ⟨j.toNat, by omega⟩
  have e1 : (1 + (jn : Int)) = ((1 + jn : Nat) : Int) := by omega
  refine ⟨s, c, 1 + jn, by show [_, V.int (1 + (jn : Int))] = _; rw [e1], g1.src, by omega, fun a gs M2 g2 ha ea gw gl gn gi => ?_⟩
  have na := g1.src.ne_none ha
  refine ⟨_, rfl, _, rfl, s, c, a, gs, rfl, g2.src, ea, na.2, by omega, by omega, by decide, fun v ls M3 g3 t3 pm => ?_⟩
  have ea3 := g3.lst g2.src ea na.2
  have lls : ls.length = gs.length := pm.length_eq
  refine ⟨_, rfl, _, rfl, _, rfl, _, rfl, _, rfl, (by show 3 ≤ sizeLine; decide), fun p hp => ?_⟩
  have sp := same_new hp (.lst [.int 1, .int 4, .int 4])
  refine ⟨s, c, p, _, rfl, g3.src.same sp, upd_same, (g3.src.ne_none hp).2, by show 1 ≤ 3; decide, by show 3 < 1000000; decide, fun i4 x4 M4 hx4 u4 => ?_⟩
  obtain ⟨sh, rfl, hsh⟩ : ∃ sh : Int, x4 = .int sh ∧ (sh = 1 ∨ sh = 4) := by
    have := List.mem_of_getElem? hx4
    simp only [List.mem_cons, List.not_mem_nil, or_false] at this
    rcases this with rfl | rfl | rfl
    · exact ⟨1, rfl, .inl rfl⟩
    · exact ⟨4, rfl, .inr rfl⟩
    · exact ⟨4, rfl, .inr rfl⟩
  have g34 := (Go.of g3.src sp).trans u4
  refine ⟨Nat.zero_le _, fun L0 hL0 => ?_⟩
  have sL := same_new hL0 (.lst [])
  have nL0 := g34.src.ne_none hL0
  have g35 := g34.then sL
  have ea5 := g35.lst g3.src ea3 na.2
  have eL0 := upd_same (H := M4) (a := L0) (o := .lst [])
  generalize L2.upd M4 L0 (.lst []) = M5 at g35 ea5 eL0 ⊢
  refine ⟨s, c, a, L0, v, sh, ls, gs, [], [], rfl, g35.src, t3.same (cut_go g35), pm.nodup_iff.mpr gn, fun x hx => pm.mem_iff.mp hx, ea5, na.2, gn, by omega, hsh, eL0, nL0.2, AllAt.nil, (fun _ h => nomatch h), by show 0 + ls.length ≤ 50; omega, fun rl rs rows M6 g6 nrl erl aR okR lR => ?_⟩
  have lR' : rows.length + 1 ≤ 0 + ls.length := lR
  refine ⟨s, c, rl, _, rfl, g6.src, erl, by rw [List.length_map, aR.1]; omega, fun D ys M7 g7 hD eD pm2 => ?_⟩
  obtain ⟨rs2, rows2, rfl, aR2, pR⟩ := perm_all pm2 rfl aR
  have nD := g6.src.ne_none hD
  have lrows : rows2.length = rows.length := pR.length_eq
  have lrs : rs2.length = rows2.length := aR2.1
  have aR7 : AllAt (RowAt M7) rs2 rows2 := aR2.imp fun p x z => KT.go g6.src g7 _ _ z
  -- the names of the barters
  refine ⟨_, rfl, _, rfl, _, rfl, D, _, rfl, .inl (SqL.of eD), s, c, rows2.length, by rw [List.length_map, lrs]; rfl, g7.src, by omega, fun nl ns M8 g8 hnl enl nw nlen nn ni => ?_⟩
  have eD8 := g8.lst g7.src eD nD.2
  have nnl := g7.src.ne_none hnl
  refine ⟨_, rfl, nl, D, _, _, rfl, SqL.of enl, SqL.of eD8, by rw [List.length_map, List.length_map, lrs, nlen], fun M9 L9 as s9 hL9 eL9 las items => ?_⟩
  have nL9 := g8.src.ne_none hL9
  have ea9 : M9 a = some (.lst (gs.map V.str)) := ((((g35.trans g6).trans g7).trans g8).then s9).lst g3.src ea3 na.2
  have aR9 : AllAt (RowAt M9) rs2 rows2 := aR7.imp fun p x z => s9 _ _ (KT.go g7.src g8 _ _ z)
  have bsA : BrsAt M9 as (ns.zip rows2) := by
    refine ⟨by rw [las, List.length_map, List.length_zip, nlen, Nat.min_self], fun i q b e1 e2 => ?_⟩
    obtain ⟨_, u, v', hu', hv', et⟩ := items i q e1
    obtain ⟨nm, hnm, rfl⟩ := getM hu'
    obtain ⟨ra, hra, rfl⟩ := getM hv'
    obtain ⟨row, hrow, rr⟩ := aR9.get hra
    have : (ns.zip rows2)[i]? = some (nm, row) := List.getElem?_zip_eq_some.mpr ⟨hnm, hrow⟩
    rw [this] at e2
    cases e2
    exact ⟨ra, et, rr⟩
  have mz : ∀ b ∈ ns.zip rows2, b.1 ∈ ns ∧ b.2 ∈ rows2 := fun b hb => by
    obtain ⟨x, y⟩ := b
    exact ⟨(List.of_mem_zip hb).1, (List.of_mem_zip hb).2⟩
  have fst : (ns.zip rows2).map (·.1) = ns := List.map_fst_zip (by omega)
  have lz : (ns.zip rows2).length ≤ 10 := by rw [List.length_zip]; omega
  have Gd : GoodBk gs (ns.zip rows2) := ⟨gw, gn, by omega, fun b hb => ⟨nw _ (mz b hb).1, (okR _ (pR.mem_iff.mp (mz b hb).2)).1⟩, by rw [fst]; exact nn, by omega⟩
  have S9 : Src M9 s c := g8.src.same s9
  refine ⟨a, L9, as, gs, ns.zip rows2, rfl, ea9, eL9, bsA, Gd, fun wd x MX sX hwd W Wc => ?_⟩
  have Wc' := Wc s c S9 na.2 nL9.2
  have nwd := S9.ne_none hwd
  refine ⟨_, rfl, _, rfl, wd, _, rfl, DPut.k (k := Sum.inr "tree") W.hw (by show 3 < sizeLine; decide), ?_⟩
  rw [List.append_nil, wld_tree]
  have gAll := (((((((g1.trans g2).trans g3).trans g35).trans g6).trans g7).trans g8).then s9).then sX
  refine ⟨_, rfl, k wd gs (ns.zip rows2) _ ⟨fun b u n1 n2 e => ?_, gAll.src.upd6 nwd⟩ ⟨a, L9, x, as, [((Sum.inr "tree" : Key), v)], ?_⟩ (by omega) lz ⟨fun b hb => ⟨ni _ (mz b hb).1, (okR _ (pR.mem_iff.mp (mz b hb).2)).2⟩, gi⟩⟩
  · have e9 := ((((((((g1.trans g2).trans g3).trans g35).trans g6).trans g7).trans g8).then s9)).keep _ _ n1 n2 e
    rw [upd_ne (ne_of_none e9 hwd)]
    exact gAll.keep _ _ n1 n2 e
  · rw [cut_upd nwd]
    exact Wc'.tree
end
end My

namespace My
open PySem PySem.Spec PyProof.Rows L2
/-! ### data that is short when it is shown -/
structure Sm (k b : Nat) (d : PyData) : Prop where
  sh : d.showable = true
  dp : d.depth ≤ k
  lf : d.leavesShort 40 = true
  bk : d.bulk ≤ b
structure SmA (k b : Nat) (ds : List PyData) : Prop where
  sh : PyData.showableAll ds = true
  dp : PyData.depthAll ds ≤ k
  lf : PyData.leavesShortAll 40 ds = true
  bk : PyData.bulkAll ds ≤ b
theorem Sm.up {k b k' b' : Nat} {d : PyData} (h : Sm k b d) (hk : k ≤ k') (hb : b ≤ b') : Sm k' b' d := ⟨h.sh, Nat.le_trans h.dp hk, h.lf, Nat.le_trans h.bk hb⟩
theorem SmA.nil {k b : Nat} : SmA k b [] := ⟨rfl, Nat.zero_le _, rfl, Nat.zero_le _⟩
theorem SmA.cons {k b m : Nat} {d : PyData} {ds : List PyData} (h : Sm k b d) (t : SmA k m ds) : SmA k (b + 1 + m) (d :: ds) := by
  refine ⟨?_, ?_, ?_, ?_⟩
  · show (d.showable && PyData.showableAll ds) = true
    rw [h.sh, t.sh]; rfl
  · show max d.depth (PyData.depthAll ds) ≤ k
    exact Nat.max_le.mpr ⟨h.dp, t.dp⟩
  · show (d.leavesShort 40 && PyData.leavesShortAll 40 ds) = true
    rw [h.lf, t.lf]; rfl
  · show d.bulk + 1 + PyData.bulkAll ds ≤ b + 1 + m
    have := h.bk
    have := t.bk
    omega
theorem SmA.up {k b b' : Nat} {ds : List PyData} (h : SmA k b ds) (hb : b ≤ b') : SmA k b' ds := ⟨h.sh, h.dp, h.lf, Nat.le_trans h.bk hb⟩
theorem SmA.tuple {k b : Nat} {ds : List PyData} (h : SmA k b ds) : Sm (k + 1) b (.tuple ds) := ⟨h.sh, Nat.succ_le_succ h.dp, h.lf, h.bk⟩
theorem SmA.list {k b : Nat} {ds : List PyData} (h : SmA k b ds) : Sm (k + 1) b (.list ds) := ⟨h.sh, Nat.succ_le_succ h.dp, h.lf, h.bk⟩
theorem Sm.non {k b : Nat} : Sm k b .none := ⟨rfl, Nat.zero_le _, rfl, Nat.zero_le _⟩
theorem Sm.str {k b : Nat} {x : Str} (h : PyData.strOk x = true) (l : x.length ≤ b) : Sm k b (.str x) := by
  refine ⟨rfl, Nat.zero_le _, ?_, l⟩
  have h : x.cps.all (fun c => decide (c < 0x110000)) = true := h
  rw [← Array.all_toList, List.all_eq_true] at h
  show x.cps.toList.all (fun c => decide (c < 16 ^ 8)) = true
  rw [List.all_eq_true]
  intro c hc
  exact decide_eq_true (Nat.lt_trans (of_decide_eq_true (h c hc)) (by decide))
theorem Sm.fits {k b : Nat} {d : PyData} (h : Sm k b d) (hb : b ≤ 300000) : d.shown.length ≤ sizeLine := by
  have q := PyData.shown_le_bulk 40 (by decide) d h.lf
  have := h.bk
  rw [sizeLine_eq]
  omega
/-- data that can be compared, of a depth -/
structure Lay (k : Nat) (d : PyData) : Prop where
  can : d.canLay0 = true
  dep : d.depth ≤ k
  nod : d.hasDict = false
structure LayAll (k : Nat) (ds : List PyData) : Prop where
  can : PyData.canLayAll0 ds = true
  dep : PyData.depthAll ds ≤ k
  nod : PyData.hasDictAll ds = false
theorem LayAll.nil {k : Nat} : LayAll k [] := ⟨rfl, Nat.zero_le _, rfl⟩
theorem LayAll.cons {k : Nat} {d : PyData} {ds : List PyData} (h : Lay k d) (t : LayAll k ds) : LayAll k (d :: ds) := by
  refine ⟨?_, ?_, ?_⟩
  · show (d.canLay0 && PyData.canLayAll0 ds) = true
    rw [h.can, t.can]; rfl
  · show max d.depth (PyData.depthAll ds) ≤ k
    exact Nat.max_le.mpr ⟨h.dep, t.dep⟩
  · show (d.hasDict || PyData.hasDictAll ds) = false
    rw [h.nod, t.nod]; rfl
theorem LayAll.of {k : Nat} : ∀ {ds : List PyData}, (∀ d ∈ ds, Lay k d) → LayAll k ds
  | [], _ => .nil
  | _ :: _, h => .cons (h _ List.mem_cons_self) (.of fun d hd => h d (List.mem_cons_of_mem _ hd))
theorem LayAll.list {k : Nat} {ds : List PyData} (h : LayAll k ds) : Lay (k + 1) (.list ds) := ⟨h.can, Nat.succ_le_succ h.dep, h.nod⟩
theorem LayAll.tuple {k : Nat} {ds : List PyData} (h : LayAll k ds) : Lay (k + 1) (.tuple ds) := ⟨h.can, Nat.succ_le_succ h.dep, h.nod⟩
theorem Lay.up {k m : Nat} {d : PyData} (h : Lay k d) (l : k ≤ m) : Lay m d := ⟨h.can, Nat.le_trans h.dep l, h.nod⟩
theorem Lay.shaped {k : Nat} {d : PyData} (h : Lay k d) (l : k ≤ 64) : SeqAt.shaped d = true := by
  show (d.canLay0 && decide (d.depth ≤ 64)) = true
  rw [h.can, decide_eq_true (Nat.le_trans h.dep l)]
  rfl
theorem eqv_same {d : PyData} (h : SeqAt.shaped d = true) : PyData.eqv d d = true := SeqAt.eqv_refl d (SeqAt.canLay_of_shaped h)
theorem al_small {c : Nat} (h : isAl c = true) : c < 128 := by
  unfold isAl at h
  rw [← in_cat] at h
  have q : (LTR ++ DIG).cps.toList.all (fun c => decide (c < 128)) = true := by decide +kernel
  exact of_decide_eq_true ((List.all_eq_true.mp q) c (of_decide_eq_true h))
theorem word_ok {x : Str} (h : wordD (.str x) = true) : PyData.strOk x = true ∧ x.length ≤ 12 := by
  have h : (decide (x.length ≤ 12) && (match x.cps.toList with
    | [] => false
    | c :: r => inS LTR c && (c :: r).all isAl)) = true := h
  rw [Bool.and_eq_true, decide_eq_true_iff] at h
  refine ⟨?_, h.1⟩
  show x.cps.all (fun c => decide (c < 0x110000)) = true
  rw [← Array.all_toList, List.all_eq_true]
  intro c hc
  have h2 := h.2
  cases e : x.cps.toList with
  | nil => rw [e] at hc; cases hc
  | cons a r =>
    rw [e] at h2 hc
    have h2 : (inS LTR a && (a :: r).all isAl) = true := h2
    exact decide_eq_true (Nat.lt_trans (al_small (List.all_eq_true.mp (Bool.and_eq_true_iff.mp h2).2 c hc)) (by decide))
/-! ### deeds and barters as data -/
def dD (q : Dd) : PyData := .tuple [.str q.1, .int q.2]
def brD (b : Br) : PyData := .tuple [.str b.1, .tuple (b.2.map .int)]
theorem dpAll_of {α : Type} {K : PySem.W.Frag} {H : Hp} {R : Addr → α → Prop} {f : α → PyData} (hf : ∀ p x, R p x → Dp K H (.ref p) (f x)) : ∀ {ps : List Addr} {xs : List α}, AllAt R ps xs → DpAll K H (ps.map V.ref) (xs.map f)
  | [], [], _ => .nil
  | [], _ :: _, h => nomatch h.1
  | _ :: _, [], h => nomatch h.1
  | p :: ps, x :: xs, h => .cons (hf _ _ (h.2 0 p x rfl rfl)) (dpAll_of hf ⟨Nat.succ.inj h.1, fun i p x h1 h2 => h.2 (i + 1) p x h1 h2⟩)
theorem dp_deed {K : PySem.W.Frag} {H : Hp} {p : Addr} {q : Dd} (h : DeedAt H p q) : Dp K H (.ref p) (dD q) := .tup (SqT.of h) (.cons (.str _) (.cons (.int _) .nil))
theorem dp_row {K : PySem.W.Frag} {H : Hp} : ∀ r : List Int, DpAll K H (rowV r) (r.map .int)
  | [] => .nil
  | i :: r => .cons (.int i) (dp_row r)
theorem dp_br {K : PySem.W.Frag} {H : Hp} {p : Addr} {b : Br} (h : BrAt H p b) : Dp K H (.ref p) (brD b) := by
  obtain ⟨a, h1, h2⟩ := h
  exact .tup (SqT.of h1) (.cons (.str _) (.cons (.tup (SqT.of h2) (dp_row _)) .nil))
theorem lay_ints : ∀ r : List Int, LayAll 0 (r.map .int)
  | [] => .nil
  | i :: r => .cons ⟨rfl, Nat.le_refl _, rfl⟩ (lay_ints r)
theorem lay_str {x : Str} (h : wordD (.str x) = true) : Lay 0 (.str x) := ⟨(word_ok h).1, Nat.le_refl _, rfl⟩
theorem lay_br {b : Br} (h : wordD (.str b.1) = true) : Lay 2 (brD b) := LayAll.tuple (.cons ((lay_str h).up (by decide)) (.cons (lay_ints b.2).tuple .nil))
theorem lay_dd {q : Dd} (h : wordD (.str q.1) = true) : Lay 1 (dD q) := LayAll.tuple (.cons (lay_str h) (.cons ⟨rfl, Nat.le_refl _, rfl⟩ .nil))
theorem lay_list {α : Type} {k : Nat} {f : α → PyData} {xs : List α} (h : ∀ x ∈ xs, Lay k (f x)) : Lay (k + 1) (.list (xs.map f)) := by
  refine LayAll.list (LayAll.of fun d hd => ?_)
  obtain ⟨x, hx, rfl⟩ := List.mem_map.mp hd
  exact h x hx
theorem sm_dd {q : Dd} (h : wordD (.str q.1) = true) (hq : q.2 = 1 ∨ q.2 = -1) : Sm 1 60 (dD q) := by
  have s1 : Sm 0 12 (.str q.1) := .str (word_ok h).1 (word_ok h).2
  have s2 : Sm 0 40 (.int q.2) := by rcases hq with e | e <;> rw [e] <;> exact ⟨by decide +kernel, by decide +kernel, by decide +kernel, by decide +kernel⟩
  exact Sm.up (SmA.cons s1 (SmA.cons s2 (SmA.nil (b := 0)))).tuple (Nat.le_refl _) (by decide)
theorem sm_dues : ∀ {xs : List Dd}, (∀ q ∈ xs, wordD (.str q.1) = true ∧ (q.2 = 1 ∨ q.2 = -1)) → SmA 1 (61 * xs.length) (xs.map dD)
  | [], _ => .nil
  | q :: xs, h => by
    have a := h q (List.mem_cons_self ..)
    refine SmA.up (SmA.cons (sm_dd a.1 a.2) (sm_dues fun q hq => h q (List.mem_cons_of_mem _ hq))) ?_
    rw [List.length_cons]; omega
theorem eqv_nil (ds : List PyData) : PyData.eqv (.list ds) (.list []) = decide (ds = []) := by
  cases ds with
  | nil => rfl
  | cons a l => exact (decide_eq_false (fun z => by cases z)).symm
theorem due_mem {st : List Int} {bs : List Br} {q : Dd} (h : q ∈ dueL st bs) : (∃ b ∈ bs, q.1 = b.1) ∧ (q.2 = 1 ∨ q.2 = -1) := by
  obtain ⟨b, hb, h⟩ := List.mem_flatMap.mp h
  obtain ⟨w, hw, rfl⟩ := List.mem_map.mp h
  have := (List.mem_filter.mp hw).1
  exact ⟨⟨b, hb, rfl⟩, by simpa using this⟩
/-- the law's own look at what a deed leaves -/
theorem enough_iff {st r : List Int} {w : Int} (l : st.length = r.length) : enoughB (combR 1 st w r) = true ↔ ∀ (k : Nat) (x y : Int), st[k]? = some x → r[k]? = some y → 0 ≤ x + w * y := by
  unfold enoughB combR
  rw [List.all_eq_true]
  constructor
  · intro h k x y hx hy
    have m : (1 * x + w * y) ∈ List.zipWith (fun x y => 1 * x + w * y) st r := List.mem_of_getElem? (i := k) (by rw [List.getElem?_zipWith, hx, hy])
    have q := of_decide_eq_true (h _ m)
    rw [Int.one_mul] at q
    exact q
  · intro h z hz
    obtain ⟨k, hk, e⟩ := List.getElem_of_mem hz
    rw [List.length_zipWith] at hk
    rw [List.getElem_zipWith] at e
    rw [← e, Int.one_mul]
    exact decide_eq_true (h k _ _ (List.getElem?_eq_getElem (by omega)) (List.getElem?_eq_getElem (by omega)))
theorem rep_flat (n : Nat) : (List.replicate n [V.int 0]).flatten = rowV (List.replicate n 0) := by
  induction n with
  | zero => rfl
  | succ n ih => rw [List.replicate_succ, List.flatten_cons, ih, List.replicate_succ]; rfl
/-! ### twins -/
def twinS (i : Nat) : Str := "zq" ++ toString ((i : Nat) : Int)
def twins (bs : List Br) : List Br := (bs.take 2).mapIdx fun i b => (twinS i, b.2)
theorem twin_ok : ∀ i : Nat, i < 2 → wordD (.str (twinS i)) = true ∧ idxS (twinS i) ≥ 100 := by
  intro i h
  have : i = 0 ∨ i = 1 := by omega
  rcases this with rfl | rfl <;> exact ⟨by decide +kernel, by decide +kernel⟩
theorem twin01 : twinS 0 ≠ twinS 1 := by decide +kernel
theorem twins_mem {bs : List Br} {b : Br} (h : b ∈ twins bs) : ∃ i, i < 2 ∧ b.1 = twinS i ∧ ∃ b0 ∈ bs, b.2 = b0.2 := by
  obtain ⟨i, hi, rfl⟩ := List.mem_mapIdx.mp h
  rw [List.length_take] at hi
  exact ⟨i, by omega, rfl, _, List.mem_of_mem_take (List.getElem_mem (by rw [List.length_take]; exact hi)), rfl⟩
theorem twins_nodup (bs : List Br) : ((twins bs).map (·.1)).Nodup := by
  unfold twins
  cases bs with
  | nil => exact List.nodup_nil
  | cons a r =>
    cases r with
    | nil => exact List.nodup_cons.mpr ⟨(fun h => nomatch h), List.nodup_nil⟩
    | cons b t =>
      show [twinS 0, twinS 1].Nodup
      exact List.nodup_cons.mpr ⟨fun h => twin01 (List.mem_singleton.mp h), List.nodup_cons.mpr ⟨(fun h => nomatch h), List.nodup_nil⟩⟩
theorem twins_len (bs : List Br) : (twins bs).length ≤ 2 := by unfold twins; rw [List.length_mapIdx, List.length_take]; omega
theorem good_twins {gs : List Str} {bs bs2 : List Br} (G : GoodBk gs bs) (l : bs.length ≤ 10) (ix : ∀ b ∈ bs, idxS b.1 < 100) (p : bs2.Perm (bs ++ twins bs)) : GoodBk gs bs2 := by
  refine ⟨G.gw, G.gn, G.gl, fun b hb => ?_, ?_, ?_⟩
  · rcases List.mem_append.mp (p.mem_iff.mp hb) with h | h
    · exact G.bw b h
    · obtain ⟨i, hi, e1, b0, h0, e2⟩ := twins_mem h
      rw [e1, e2]
      exact ⟨(twin_ok i hi).1, (G.bw b0 h0).2⟩
  · rw [(p.map (·.1)).nodup_iff, List.map_append, List.nodup_append]
    refine ⟨G.bn, twins_nodup bs, fun a ha b hb e => ?_⟩
    obtain ⟨x, hx, rfl⟩ := List.mem_map.mp ha
    obtain ⟨y, hy, rfl⟩ := List.mem_map.mp hb
    obtain ⟨i, hi, e1, _⟩ := twins_mem hy
    have q := ix x hx
    rw [e, e1] at q
    exact absurd (twin_ok i hi).2 (by omega)
  · rw [p.length_eq, List.length_append]
    have := twins_len bs
    omega
end My

namespace My
open PySem PySem.Spec PyProof.Rows L2
def Bn (n : Nat) : Nat := 40 * 4 ^ n
theorem Bn_pos (n : Nat) : 40 ≤ Bn n := Nat.le_mul_of_pos_right 40 (Nat.pos_of_neZero (4 ^ n))
theorem Bn_succ (n : Nat) : Bn (n + 1) = 4 * Bn n := by unfold Bn; rw [Nat.pow_succ]; omega
theorem Bn_le {n m : Nat} (h : n ≤ m) : Bn n ≤ Bn m := Nat.mul_le_mul_left _ (Nat.pow_le_pow_right (by decide) h)
abbrev SmN (n : Nat) (d : PyData) : Prop := Sm (n + 2) (Bn n) d
theorem SmN.up {n m : Nat} {d : PyData} (h : SmN n d) (l : n ≤ m) : SmN m d := Sm.up h (by omega) (Bn_le l)
end My

namespace My
open PySem PySem.Spec PyProof.Rows L2
/-! ### repr of values at any depth, dicts among them -/
def encK : Key → PyData
  | .inl i => .int i
  | .inr x => .str x
theorem encK_reads {P : Program} {w : World} {h : Heap} (k : Key) (v : Value) (e : (mixKind P w).is k v = true) : Reads h v (encK k) [] := by
  rcases keyIs_shape e with ⟨i, t, rfl, rfl⟩ | ⟨x, t, rfl, rfl⟩
  · exact .int i t
  · exact .str x t
section
variable {X : Cx} {pins : List (Addr × Obj)} {σ : L2.St} {H : Hp} {s : Shared}
theorem dct_reads (I : Inv X pins σ H s) {a : Addr} {kvs : List (Key × V)} {es : List (PyData × PyData)} (e : H a = some (.dK kvs)) (x : DctE kvs es) : ∃ as, Reads s.heap (.ref a) (.dict es) as ∧ sysModules ∉ as := by
  obtain ⟨_, ns, vs, kv, D⟩ := I.hok a _ e
  have na : sysModules ≠ a := fun z => by
    rw [← z] at ns
    exact absurd ns (by simp)
  cases x with
  | none =>
    cases kv
    exact ⟨[a], PyProof.V.reads_dictOf (enc := encK) encK_reads D .nil, by simp; exact na⟩
  | one =>
    cases kv with
    | cons h1 h2 =>
      cases h2
      rename_i q
      obtain ⟨k0, u0⟩ := q
      obtain ⟨ek, rv⟩ := h1
      have ek : (.inl 0 : Key) = k0 := ek
      obtain ⟨t, eu⟩ := (show ∃ t, u0 = Value.int 1 t from rv)
      subst ek
      subst eu
      have r := PyProof.V.reads_dictOf (enc := encK) encK_reads D (.cons (.int 1 t) .nil)
      exact ⟨_, r, by simp; exact na⟩
mutual
theorem Dq.reads (I : Inv X pins σ H s) : ∀ (d : PyData) (v : V) (u : Value), Dq H v d → RelV v u → ∃ as, Reads s.heap u d as ∧ sysModules ∉ as
  | .none, _, _, h, r => by
    cases h
    cases r
    exact ⟨[], .none, List.not_mem_nil⟩
  | .bool b, _, _, h, r => by
    cases h
    cases r
    exact ⟨[], .bool b, List.not_mem_nil⟩
  | .int i, _, _, h, r => by
    cases h
    obtain ⟨t, rfl⟩ := r
    exact ⟨[], .int i t, List.not_mem_nil⟩
  | .str x, _, _, h, r => by
    cases h
    obtain ⟨t, rfl⟩ := r
    exact ⟨[], .str x t, List.not_mem_nil⟩
  | .list ds, _, _, h, r => by
    cases h with
    | lst e big ha =>
      cases r
      obtain ⟨its, rv, ⟨o, n, ho, hc, _, hd⟩, _⟩ := I.list (SqL.of e)
      obtain ⟨as, hr, hn⟩ := Dq.readsAll I ds _ its ha rv
      refine ⟨_, .list ho hc hd hr, fun z => ?_⟩
      rcases List.mem_cons.mp z with z | z
      · exact absurd big (by rw [← z]; exact Nat.lt_irrefl _)
      · exact hn z
  | .tuple ds, _, _, h, r => by
    cases h with
    | tup e ha =>
      cases r
      obtain ⟨its, rv, ⟨o, ho, hc, n, hd⟩, _⟩ := I.tuple (SqT.of e)
      obtain ⟨as, hr, hn⟩ := Dq.readsAll I ds _ its ha rv
      exact ⟨_, .tuple ho hc hd hr, hn⟩
  | .dict es, _, _, h, r => by
    cases h with
    | dct e x =>
      cases r
      exact dct_reads I e x
theorem Dq.readsAll (I : Inv X pins σ H s) : ∀ (ds : List PyData) (vs : List V) (us : List Value), DqAll H vs ds → Vals vs us → ∃ as, ReadsAll s.heap us ds as ∧ sysModules ∉ as
  | [], _, _, h, r => by
    cases h
    cases r
    exact ⟨[], .nil, List.not_mem_nil⟩
  | d :: ds, _, _, h, r => by
    cases h with
    | cons h1 h2 =>
      cases r with
      | cons r1 r2 =>
        obtain ⟨as, a1, a2⟩ := Dq.reads I d _ _ h1 r1
        obtain ⟨bs, b1, b2⟩ := Dq.readsAll I ds _ _ h2 r2
        exact ⟨_, .cons a1 b1, fun z => (List.mem_append.mp z).elim a2 b2⟩
end
def rReprQ : List V → Hp → VK → Prop := fun xs H Q => ∃ (v : V) (d : PyData), xs = [v] ∧ Dq H v d ∧ d.showable = true ∧ d.depth ≤ 60 ∧ d.shown.length ≤ sizeLine ∧ Q (.str d.shown) H
theorem call_repr_Q (hg : X.A.guards = some []) (hu : X.A.units + 64 < cLine) : CallR X (.builtin "repr") rReprQ := by
  intro pins s σ H xs us Q I r h
  obtain ⟨v, d, rfl, dq, sh, dd, sz, q⟩ := h
  obtain ⟨u, rfl, r1⟩ := vals1 r
  have deep : ∀ a, u = .ref a → wpAny (model X.prog X.w) X.A (call (.builtin "repr") [u]) (EP X pins σ Q) X.xe s := fun a e => by
    obtain ⟨as, hr, hn⟩ := Dq.reads I d v u dq r1
    rw [e] at hr ⊢
    exact repr_of_reads' hr sh (fun _ => hn) hg (by omega) (fun _ _ e => e) (fun h' u tk hk => ⟨.str d.shown, H, I.kept hk, ⟨u, rfl⟩, q⟩) sz
  cases dq with
  | non =>
    cases r1
    exact PySem.P.repr_of_none ⟨.str _, H, I.tok _, ⟨_, rfl⟩, q⟩
  | bl b =>
    cases r1
    exact PySem.P.repr_of_bool ⟨.str _, H, I.tok _, ⟨_, rfl⟩, q⟩
  | int i =>
    obtain ⟨t, rfl⟩ := r1
    exact PySem.P.repr_of_int (of_decide_eq_true sh) ⟨.str _, H, I.tok _, ⟨_, rfl⟩, q⟩
  | str x =>
    obtain ⟨t, rfl⟩ := r1
    exact PySem.P.repr_of_str ⟨.str _, H, I.tok _, ⟨_, rfl⟩, q⟩ sz
  | lst e n hs => exact deep _ r1
  | tup e hs => exact deep _ r1
  | dct e x => exact deep _ r1
end
end My

namespace My
open PySem PySem.Spec PyProof.Rows L2
/-! ### a law whose def makes code objects: its table stands in the heap from the entry -/
/-- the def at f has its code object at c -/
def CodeAt (K : PySem.W.Frag) (f c : Addr) : Prop := ∃ (oc : Value) (od : Option Addr) (fd : FuncData) (sl : Array (Option Value)), K.lookup f = some ⟨oc, od, .func fd, sl⟩ ∧ fd.code = .ref c
section
variable {P : Program} {w : World} {K : PySem.W.Frag} {mg : Str → Option Value} {base : Heap}
theorem FnG.ofC {x qual : Str} {st : Stmt} {f c : Addr} {fd : FuncData} {N ps : List Str} {k : Nat} {sp : Sp} (F : Fun K x qual st f fd) (hc : CodeAt K f c) (S : FnScope N ps (defScope st)) (len : ∀ vs H Q E, sp vs H Q E → vs.length = ps.length)
    (body : ∀ (A : Around) (outer : List Env) (s : Shared) (H : Hp) (vs : List V) (Q : VK) (E : XK), A.guards = some [] → Room k (A.deeper (envOfC qual (defScope st) s.heap.objs.size f (.ref c))) → sp vs H Q E →
      ∃ t, PSs (cxOf CX0 P w K mg base N qual (defScope st) f (.ref c) A outer s H E).nox (defBody st) t ∧ t { nx := fun _ H' => Q .non H', rt := Q } (start N vs) H) :
    FnG P w K mg base (k + 1) f fd ps sp := by
  obtain ⟨oc, od, kV, doc, pm, an, cdv, ct, osl, rfl, lk, hcd⟩ := F.ex
  have ec : cdv = .ref c := by
    obtain ⟨_, _, fd', _, l2, e2⟩ := hc
    rw [lk] at l2
    injection l2 with l3
    injection l3 with _ _ l4 _
    injection l4 with l5
    rw [← l5] at e2
    exact e2
  subst ec
  refine ⟨len, fun A hg hr outer s H e0 args us hb vs r Q E hsp => ?_⟩
  have KX : K.In s.heap := e0.mod.kin.keeps fun b o q => (e0.bs b o q).1
  have nl : s.heap.NoLimit := e0.mod.nolimit.keeps fun b o q => (e0.bs b o q).1
  have kinds : ∀ y ∈ ps.zip us, (defScope st).names.lookup y.1 = some .local ∨ ((defScope st).names.lookup y.1 = some .cell ∧ ((cellsFrom (s.heap.objs.size + 1) (defScope st).names []).lookup y.1).isSome = true) := by
    rintro ⟨n, v⟩ hy
    have q := S.par n (List.of_mem_zip hy).1
    exact q.imp id fun q => ⟨q, PySem.W.cellsFrom_some _ _ _ (.inl q)⟩
  refine codeAny_call_function hr.depth (KX _ _ lk) rfl S.co S.gen rfl (PySem.W.codeRec_of KX hcd) (hb _ _ _ _ (wpAny_newFunctionEnv_cells S.kind kinds fun env he s1 x => ?_))
  subst he
  refine ⟨nl.keeps x.toInCall.keep, codeAny_func ?_⟩
  obtain ⟨t, ht, hq⟩ := body A outer s H vs Q E hg (hr.deeper _) hsp
  have I : Inv (cxOf CX0 P w K mg base N qual (defScope st) f (.ref c) A outer s H E) [] (start N vs) H s1 := inv_start S hr.hd e0 (len _ _ _ _ hsp) r x
  refine wpAny_mono (ht.nox.run [] s1 (start N vs) H _ I hq) (fun fl s' hs => ?_) (fun e s' hs => hs)
  have last : ∀ {σ' : L2.St} {H' : Hp} {v : V} {u : Value}, Inv (cxOf CX0 P w K mg base N qual (defScope st) f (.ref c) A outer s H E) [] σ' H' s' → RelV v u → Q v H' → CE outer P w H s Q u s' := fun J rv q => ⟨_, _, J.os, J.bare, J.base, J.hok, rv, q⟩
  rcases fl with _ | _ | _ | u
  all_goals first
    | (obtain ⟨v, σ', H', J, rv, q⟩ := hs; exact last J rv q)
    | (obtain ⟨σ', H', J, q⟩ := hs; exact last (v := V.non) (u := Value.none) J rfl q)
    | (obtain ⟨_, _, _, q⟩ := hs; exact False.elim q)
/-- the law's def, its table at p empty when it is called -/
theorem law_runT {k : Nat} {fa a c p : Addr} {fd : FuncData} {x : Str} {sp : Sp} {mb : Str → Option Value} {s₁ : Shared} {vs : List Value} {ns : List Int}
    (KX : K.In s₁.heap) (hns : s₁.heap.Ns mainGlobals mg) (hb : s₁.heap.Ns builtinsNs mb) (hbb : ∀ x : Str, x ≠ "__name__" → mb x = bootBuiltins x) (nl : s₁.heap.NoLimit) (hg : s₁.gens = #[])
    (tp : s₁.heap.get? p = some (PySem.W.tabObj #[])) (np : K.lookup p = none) (cp : PySem.W.CodeHd s₁.heap c p)
    (bmain : ∃ (m : Addr) (o : Obj), mg "__builtins__" = some (.ref m) ∧ m ≠ builtinsNs ∧ s₁.heap.get? m = some o ∧ o.cls = .type "module" ∧ o.dict = some builtinsNs ∧ o.data = .plain)
    (ha : s₁.heap.get? a = some { cls := .type "list", data := .seq vs.toArray }) (hi : IntsAre vs ns) (hl : ns.length ≤ sizeLine) (hr : Room k callerA)
    (F : ∀ base : Heap, K.In base → base.Ns mainGlobals mg → LamX.TabB base mg c p → FnG P w K mg base k fa fd [x] sp) (bind : ∀ (s : Shared) (u : Value), BindsTo s fd ⟨[u], []⟩ [(x, u)])
    (hsp : ∀ H : Hp, H p = some (.tbl #[]) → SqL K H a (ns.map V.int) → sp [.ref a] H (fun v _ => v = .bl true) fun _ _ _ => False) :
    codeAny (model P w) callerA (.call (.ref fa) ⟨[.ref a], []⟩) (fun r s' => r = .ok (.ret (.bool true)) ∧ OldK s₁.heap s'.heap ∧ s'.os = s₁.os ∧ AllBare s'.gens) s₁ := by
  have rv := vals_ints hi
  have lv := hi.length
  have ap : a ≠ p := fun z => by
    rw [z, tp] at ha
    cases ha
  have core : ∀ H : Hp, H p = some (.tbl #[]) ∧ (∀ b, b ≠ p → H b = none ∨ ∃ o xs, H b = some (.frz o (.lst xs))) ∧ SqL K H a (ns.map V.int) ∧ HOk P w H s₁.heap ∧ (∀ b, b ≠ p → H b ≠ none → b = a) ∧ (H a ≠ none → K.lookup a = none) →
      codeAny (model P w) callerA (.call (.ref fa) ⟨[.ref a], []⟩) (fun r s' => r = .ok (.ret (.bool true)) ∧ OldK s₁.heap s'.heap ∧ s'.os = s₁.os ∧ AllBare s'.gens) s₁ := by
    rintro H ⟨hp, hO, hS, hok, hA, hK⟩
    have no : ∀ {b : Addr}, b ≠ a → b ≠ p → H b = none := fun {b} n n2 => by
      cases q : H b with
      | none => rfl
      | some u => exact absurd (hA b n2 fun z => by rw [q] at z; cases z) n
    have stays : ∀ {b : Addr} {o : Obj}, s₁.heap.get? b = some o → (∀ ys n, o.data ≠ .seq ys n) → o.data ≠ .fields #[] → (hidT s₁.heap H).get? b = some o := fun {b o} e d1 d2 => by
      refine hidT_get e (no (fun z => ?_) fun z => ?_)
      · rw [z, ha] at e
        have e' := Option.some.inj e
        exact d1 _ _ (by rw [← e'])
      · rw [z, tp] at e
        have e' := Option.some.inj e
        exact d2 (by rw [← e'])
    have dicts : ∀ {b : Addr} {o : Obj} {es : Array DictEntry} {ep : Nat}, s₁.heap.get? b = some o → o.data = .dict es ep → (hidT s₁.heap H).get? b = some o := fun e d => stays e (fun _ _ z => by rw [d] at z; cases z) fun z => by rw [d] at z; cases z
    have nsK : ∀ {b : Addr} {m : Str → Option Value}, s₁.heap.Ns b m → (hidT s₁.heap H).Ns b m := fun z => by
      obtain ⟨o, es, ep, e, d, r⟩ := z
      exact ⟨o, es, ep, dicts e d, d, r⟩
    have inK : K.In (hidT s₁.heap H) := fun b o e => by
      refine hidT_get (KX b o e) ?_
      by_cases hb : b = a
      · cases q : H b with
        | none => rfl
        | some u =>
          have z := hK (by rw [← hb, q]; exact fun z => nomatch z)
          rw [hb, z] at e
          cases e
      · refine no hb fun z => ?_
        rw [z, np] at e
        cases e
    obtain ⟨o0, es0, ep0, g1, g2, _⟩ := id hns
    have gp : mainGlobals ≠ p := fun z => by
      rw [z, tp] at g1
      have e' := Option.some.inj g1
      rw [← e'] at g2
      cases g2
    have tb : LamX.TabB (hidT s₁.heap H) mg c p := by
      refine ⟨?_, ?_, gp⟩
      · obtain ⟨o, us, f1, f2, f3, f4, f5, f6, f7, e1, r1, r2, r3, r⟩ := cp
        refine ⟨o, us, f1, f2, f3, f4, f5, f6, f7, stays e1 (fun _ _ z => by rw [r2] at z; cases z) (fun z => ?_), r1, r2, r3, r⟩
        rw [r2] at z
        have z' := Data.fields.inj z
        rw [z'] at r3
        cases r3
      · obtain ⟨m, o, b1, b2, b3, b4, b5, b6⟩ := bmain
        refine ⟨m, o, b1, b2, fun z => ?_, fun z => ?_, stays b3 (fun _ _ z => by rw [b6] at z; cases z) (fun z => by rw [b6] at z; cases z), b4, b5, b6⟩
        · rw [z, g1] at b3
          have e' := Option.some.inj b3
          rw [← e', g2] at b6
          cases b6
        · rw [z, tp] at b3
          have e' := Option.some.inj b3
          rw [← e'] at b6
          cases b6
    obtain ⟨mc, c1, c2⟩ := nl
    have e0 : Env0 P w K mg (hidT s₁.heap H) callerA [] s₁ H :=
      { frames := rfl, mod := ⟨inK, nsK hns, ⟨mb, nsK hb, hbb⟩, ⟨mc, nsK c1, c2⟩⟩, bs := fun b o e => of_hidT e, bsz := Nat.le_of_eq (hidT_size _ _), funs := trivial, frf := fun b z => absurd z List.not_mem_nil, hok := hok, bare := .of_eq hg }
    refine codeAny_mono ((F _ inK (nsK hns) tb).run callerA rfl hr [] s₁ H e0 ⟨[.ref a], []⟩ [.ref a] (bind s₁ (.ref a)) [.ref a] (.cons rfl .nil) _ _ (hsp H hp hS)) fun r s' h => ?_
    rcases r with e | fl
    · exact False.elim h
    rcases fl with _ | _ | _ | u
    all_goals first
      | exact False.elim h
      | skip
    obtain ⟨v, H', os, bare, un, hok', r', q⟩ := h
    have q' : v = .bl true := q
    rw [q'] at r'
    have r2 : u = Value.bool true := r'
    have keep : ∀ b o, b ≠ p → s₁.heap.get? b = some o → s'.heap.get? b = some o := fun b o nb e => by
      rcases hO b nb with z | ⟨ob, xs, z⟩
      · exact un.keep b o e z List.not_mem_nil List.not_mem_nil
      · have z1 := (hok b _ z).1
        have z2 := (hok' b _ (un.frzs b ob _ z)).1
        rw [e] at z1
        cases z1
        exact z2
    have grown : ∃ more : Array Value, s'.heap.get? p = some { cls := .none, data := .fields more } := by
      obtain ⟨more, z⟩ := un.tbls p #[] hp
      exact ⟨_, hok' p _ z⟩
    refine ⟨by rw [r2], ⟨fun b o e => ?_, fun b o e => ?_⟩, os, bare⟩
    · by_cases hbp : b = p
      · obtain ⟨more, hm⟩ := grown
        subst hbp
        rw [tp] at e
        cases e
        exact .inr (.inl ⟨(cp.tab tp).isCodeTable, rfl, #[], more, rfl, by rw [Array.empty_append]; exact hm⟩)
      · exact .inl (keep b o hbp e)
    · by_cases hbp : b = p
      · obtain ⟨more, hm⟩ := grown
        rw [hbp]
        exact ⟨_, hm⟩
      · exact ⟨o, keep b o hbp e⟩
  cases hk : K.lookup a with
  | some o =>
    have e := KX a o hk
    rw [ha] at e
    cases e
    have at_ : ∀ {b : Addr} {u : HO}, upd (fun _ => none) p (.tbl #[]) b = some u → b = p ∧ u = .tbl #[] := fun {b u} z => by
      by_cases h : b = p
      · rw [h, upd_same] at z; exact ⟨h, (Option.some.inj z).symm⟩
      · rw [upd_ne h] at z; cases z
    refine core (upd (fun _ => none) p (.tbl #[])) ⟨upd_same, fun b n => .inl (upd_ne n), .inr ⟨_, vs.toArray, _, hk, rfl, rfl, rfl, by rw [List.size_toArray, lv]; exact hl, by simpa using rv⟩, fun b u z => ?_, fun b n z => absurd (upd_ne n) z, fun z => absurd (upd_ne ap) z⟩
    obtain ⟨rfl, rfl⟩ := at_ z
    exact tp
  | none =>
    have eA : upd (upd (fun _ => none) a (.frz { cls := .type "list", data := .seq vs.toArray } (.lst (ns.map V.int)))) p (.tbl #[]) a = some (.frz { cls := .type "list", data := .seq vs.toArray } (.lst (ns.map V.int))) := by
      rw [upd_ne ap, upd_same]
    refine core (upd (upd (fun _ => none) a (.frz { cls := .type "list", data := .seq vs.toArray } (.lst (ns.map V.int)))) p (.tbl #[])) ⟨upd_same, fun b n => ?_, .inl (.inr ⟨_, eA⟩), fun b u z => ?_, fun b n z => ?_, fun _ => hk⟩
    · rw [upd_ne n]
      by_cases h : b = a
      · rw [h, upd_same]; exact .inr ⟨_, _, rfl⟩
      · rw [upd_ne h]; exact .inl rfl
    · by_cases h : b = p
      · rw [h, upd_same] at z
        cases z
        rw [h]
        exact tp
      · rw [upd_ne h] at z
        by_cases h2 : b = a
        · rw [h2, upd_same] at z
          cases z
          rw [h2]
          exact ⟨ha, by rw [List.length_map]; exact hl, vs, _, rv, ha⟩
        · rw [upd_ne h2] at z
          cases z
    · rw [upd_ne n] at z
      by_cases h2 : b = a
      · exact h2
      · exact absurd (upd_ne h2) z
end
/-- the walk's goal from the promise of a law whose def makes code objects -/
theorem walk_ofT {l : PySem.W.OpenLaw} {n k : Nat} {q : Program} {loose : List Str} {XP : (Str → Option Value) → Heap → Prop} {YP : World → Heap → Prop} {d : DefRec} {K : Params → PySem.W.Frag} {p : Addr} {sp : World → Sp} {x : Str}
    (hn : l.most = some n) (hn2 : n ≤ sizeLine) (hdf : d.params.defaults = []) (hr : Room k callerA) (hY : ∀ (w : World) (h : Heap), YP w h → (K w.params).In h ∧ h.get? p = some (PySem.W.tabObj #[]))
    (F : ∀ (w : World) (mg : Str → Option Value) (fa : Addr) (h : Heap), (K w.params).In h → h.Ns mainGlobals mg → mg d.name = some (.ref fa) → ∃ (fd : FuncData) (c : Addr), (K w.params).lookup p = none ∧ PySem.W.CodeHd h c p ∧ (∀ (s : Shared) (u : Value), BindsTo s fd ⟨[u], []⟩ [(x, u)]) ∧
      ∀ base : Heap, (K w.params).In base → base.Ns mainGlobals mg → LamX.TabB base mg c p → FnG l.prog w (K w.params) mg base k fa fd [x] (sp w))
    (hsp : ∀ (w : World) (H : Hp) (a : Addr) (ns : List Int), ns.length ≤ n → H p = some (.tbl #[]) → SqL (K w.params) H a (ns.map V.int) → sp w [.ref a] H (fun v _ => v = .bl true) fun _ _ _ => False) :
    PySem.W.WalkO q loose XP YP l.row.toRowW d [] (fun f vs => PySem.call f vs) :=
  Att.attach_call hn hdf fun w s₀ s₁ mg mb fa o pm cd doc a vs ns G Y _ _ _ hmg ho hi hlen hg => by
    obtain ⟨KX, tp⟩ := hY w _ Y
    obtain ⟨fd, c, np, cp, b, hF⟩ := F w mg fa _ KX G.T.g hmg
    exact law_runT KX G.T.g G.T.b G.T.builtins G.T.nolimit hg tp np cp G.T.bmain ho hi (Nat.le_trans hlen hn2) hr hF b fun H hp hS => hsp w H a ns hlen hp hS
end My

namespace My
open PySem PySem.Spec PyProof.Rows L2
/-! ### min of a tuple of ints -/
theorem min_intTup {prog : Program} {w : World} {A : Around} {E : Value → Shared → Prop} {s : Shared} {l : Addr} {xs : Array (Int × Tok)} {Q : Value → Shared → Prop} (hh : A.handled = none) (hl : s.heap.IsTuple l (intItems xs)) (hne : 0 < xs.size)
    (h : ∀ (v : Value) (h' : Heap) (tk : Nat), (intItems xs)[argBest (fun i j => decide (numAt xs i < numAt xs j)) (xs.size - 1)]? = some v → (∀ (b : Addr) (o : Obj), s.heap.get? b = some o → h'.get? b = some o) → Q v { heap := h', gens := s.gens, drawn := s.drawn, toks := tk, os := s.os }) :
    wpAny (model prog w) A (call (.builtin "min") [.ref l]) Q E s := by
  obtain ⟨o, B, st⟩ := beginK true l (intItems xs)
  have la : l < s.heap.objs.size := by
    obtain ⟨o', e, _⟩ := id hl
    exact Heap.lt_size e
  refine call_min_walk (B.iter prog w A.in1 E s _ hl ?_)
  have e0 : (s.heap.push o).get? s.heap.objs.size = some o := Heap.get?_push_size _ B.free
  refine ⟨s.heap.objs.size, [s.heap.objs.size, l], [s.heap.objs.size], (intItems xs).size, fun i v => (intItems xs)[i]? = some v, fun i h => h.IsTupleIter s.heap.objs.size l i ∧ h.IsTuple l (intItems xs), fun i j => decide (numAt xs i < numAt xs j), rfl,
    Walks.tuple (A := A.in1) hh s.heap.objs.size l (Nat.ne_of_lt la) (intItems xs), ⟨st _ _ e0, B.keeps _ _ hl fun b u e => Heap.get?_push_of_some _ e⟩, fun b hb => ?_, ?_, CmpOf.ints_lt (numAt xs) fun _ _ => intItems_at, fun v h' tk hP hk => h v h' tk ?_ fun b u e => hk b u (fun z => ?_) (Heap.get?_push_of_some _ e)⟩
  · have sz : (s.heap.push o).objs.size = s.heap.objs.size + 1 := Heap.size_push ..
    show b < (s.heap.push o).objs.size
    rw [sz]
    simp only [List.mem_cons, List.not_mem_nil, or_false] at hb
    rcases hb with rfl | rfl
    · exact Nat.lt_succ_self _
    · exact Nat.lt_succ_of_lt la
  · unfold intItems; rw [Array.size_map]; exact hne
  · have e : (intItems xs).size = xs.size := by unfold intItems; rw [Array.size_map]
    rw [e] at hP
    exact hP
  · rw [List.mem_singleton.mp z] at e
    exact Nat.lt_irrefl _ (Heap.lt_size e)
theorem min_rawT {prog : Program} {w : World} {A : Around} {E : Value → Shared → Prop} {s : Shared} {l : Addr} {its : List Value} {ns : List Int} {Q : Value → Shared → Prop} (hh : A.handled = none) (hl : s.heap.IsTuple l its.toArray) (hi : IntsAre its ns) (hne : 0 < ns.length)
    (h : ∀ (h' : Heap) (tk : Nat) (M : Int) (t' : Tok), (∀ (b : Addr) (o : Obj), s.heap.get? b = some o → h'.get? b = some o) → M ∈ ns → (∀ a, a ∈ ns → M ≤ a) → Q (.int M t') { heap := h', gens := s.gens, drawn := s.drawn, toks := tk, os := s.os }) :
    wpAny (model prog w) A (call (.builtin "min") [.ref l]) Q E s := by
  obtain ⟨xs, e⟩ := AllInts.items (IntsAre.allInts hi)
  have hn : numsOf (intItems xs).toList = ns := by rw [← e]; exact IntsAre.numsOf hi
  rw [nums_intItems] at hn
  subst hn
  have hsz : 0 < xs.size := by rw [List.length_map] at hne; simpa using hne
  rw [e] at hl
  refine min_intTup hh hl hsz fun v h' tk hv hk => ?_
  obtain ⟨t, rfl⟩ := intItems_at hv
  obtain ⟨h1, h2⟩ := argBest_lt (numAt xs) (xs.size - 1)
  refine h h' tk _ t hk ?_ fun a ha => ?_
  · rw [numAt_eq]
    exact getD_mem (by rw [List.length_map, Array.length_toList]; omega)
  · obtain ⟨j, hj, rfl⟩ := mem_getD ha
    rw [← numAt_eq]
    exact h2 j (by rw [List.length_map, Array.length_toList] at hj; omega)
def rMinT (K : PySem.W.Frag) : List V → Hp → VK → Prop := fun vs H Q => ∃ (a : Addr) (ns : List Int), vs = [.ref a] ∧ SqT K H a (ns.map V.int) ∧ 0 < ns.length ∧ ∀ m, m ∈ ns → (∀ y, y ∈ ns → m ≤ y) → Q (.int m) H
theorem cr_minT {X : Cx} (hc : X.calm = true) : CallR X (.builtin "min") (rMinT X.K) := by
  intro pins s σ H vs us Q I r h
  obtain ⟨a, ns, rfl, hs, hne, q⟩ := h
  obtain ⟨its, rv, hl, _⟩ := I.tuple hs
  rw [Vals.ref1 r]
  exact min_rawT (I.ok.hd hc) hl (Vals.ints rv) hne fun h' tk m t' hk h1 h2 => ⟨.int m, H, I.kept hk, ⟨t', rfl⟩, q m h1 h2⟩
end My

namespace My
open PySem PySem.Spec PyProof.Rows L2
/-! ### max of a tuple of ints -/
theorem max_intTup {prog : Program} {w : World} {A : Around} {E : Value → Shared → Prop} {s : Shared} {l : Addr} {xs : Array (Int × Tok)} {Q : Value → Shared → Prop} (hh : A.handled = none) (hl : s.heap.IsTuple l (intItems xs)) (hne : 0 < xs.size)
    (h : ∀ (v : Value) (h' : Heap) (tk : Nat), (intItems xs)[argBest (fun i j => decide (numAt xs i > numAt xs j)) (xs.size - 1)]? = some v → (∀ (b : Addr) (o : Obj), s.heap.get? b = some o → h'.get? b = some o) → Q v { heap := h', gens := s.gens, drawn := s.drawn, toks := tk, os := s.os }) :
    wpAny (model prog w) A (call (.builtin "max") [.ref l]) Q E s := by
  obtain ⟨o, B, st⟩ := beginK true l (intItems xs)
  have la : l < s.heap.objs.size := by
    obtain ⟨o', e, _⟩ := id hl
    exact Heap.lt_size e
  refine call_max_walk (B.iter prog w A.in1 E s _ hl ?_)
  have e0 : (s.heap.push o).get? s.heap.objs.size = some o := Heap.get?_push_size _ B.free
  refine ⟨s.heap.objs.size, [s.heap.objs.size, l], [s.heap.objs.size], (intItems xs).size, fun i v => (intItems xs)[i]? = some v, fun i h => h.IsTupleIter s.heap.objs.size l i ∧ h.IsTuple l (intItems xs), fun i j => decide (numAt xs i > numAt xs j), rfl,
    Walks.tuple (A := A.in1) hh s.heap.objs.size l (Nat.ne_of_lt la) (intItems xs), ⟨st _ _ e0, B.keeps _ _ hl fun b u e => Heap.get?_push_of_some _ e⟩, fun b hb => ?_, ?_, CmpOf.ints_gt (numAt xs) fun _ _ => intItems_at, fun v h' tk hP hk => h v h' tk ?_ fun b u e => hk b u (fun z => ?_) (Heap.get?_push_of_some _ e)⟩
  · have sz : (s.heap.push o).objs.size = s.heap.objs.size + 1 := Heap.size_push ..
    show b < (s.heap.push o).objs.size
    rw [sz]
    simp only [List.mem_cons, List.not_mem_nil, or_false] at hb
    rcases hb with rfl | rfl
    · exact Nat.lt_succ_self _
    · exact Nat.lt_succ_of_lt la
  · unfold intItems; rw [Array.size_map]; exact hne
  · have e : (intItems xs).size = xs.size := by unfold intItems; rw [Array.size_map]
    rw [e] at hP
    exact hP
  · rw [List.mem_singleton.mp z] at e
    exact Nat.lt_irrefl _ (Heap.lt_size e)
theorem max_rawT {prog : Program} {w : World} {A : Around} {E : Value → Shared → Prop} {s : Shared} {l : Addr} {its : List Value} {ns : List Int} {Q : Value → Shared → Prop} (hh : A.handled = none) (hl : s.heap.IsTuple l its.toArray) (hi : IntsAre its ns) (hne : 0 < ns.length)
    (h : ∀ (h' : Heap) (tk : Nat) (M : Int) (t' : Tok), (∀ (b : Addr) (o : Obj), s.heap.get? b = some o → h'.get? b = some o) → M ∈ ns → (∀ a, a ∈ ns → a ≤ M) → Q (.int M t') { heap := h', gens := s.gens, drawn := s.drawn, toks := tk, os := s.os }) :
    wpAny (model prog w) A (call (.builtin "max") [.ref l]) Q E s := by
  obtain ⟨xs, e⟩ := AllInts.items (IntsAre.allInts hi)
  have hn : numsOf (intItems xs).toList = ns := by rw [← e]; exact IntsAre.numsOf hi
  rw [nums_intItems] at hn
  subst hn
  have hsz : 0 < xs.size := by rw [List.length_map] at hne; simpa using hne
  rw [e] at hl
  refine max_intTup hh hl hsz fun v h' tk hv hk => ?_
  obtain ⟨t, rfl⟩ := intItems_at hv
  obtain ⟨h1, h2⟩ := argBest_gt (numAt xs) (xs.size - 1)
  refine h h' tk _ t hk ?_ fun a ha => ?_
  · rw [numAt_eq]
    exact getD_mem (by rw [List.length_map, Array.length_toList]; omega)
  · obtain ⟨j, hj, rfl⟩ := mem_getD ha
    rw [← numAt_eq]
    exact h2 j (by rw [List.length_map, Array.length_toList] at hj; omega)
def rMaxT (K : PySem.W.Frag) : List V → Hp → VK → Prop := fun vs H Q => ∃ (a : Addr) (ns : List Int), vs = [.ref a] ∧ SqT K H a (ns.map V.int) ∧ 0 < ns.length ∧ ∀ m, m ∈ ns → (∀ y, y ∈ ns → y ≤ m) → Q (.int m) H
theorem cr_maxT {X : Cx} (hc : X.calm = true) : CallR X (.builtin "max") (rMaxT X.K) := by
  intro pins s σ H vs us Q I r h
  obtain ⟨a, ns, rfl, hs, hne, q⟩ := h
  obtain ⟨its, rv, hl, _⟩ := I.tuple hs
  rw [Vals.ref1 r]
  exact max_rawT (I.ok.hd hc) hl (Vals.ints rv) hne fun h' tk m t' hk h1 h2 => ⟨.int m, H, I.kept hk, ⟨t', rfl⟩, q m h1 h2⟩
end My

namespace My
open PySem PySem.Spec PyProof.Rows L2
/-- one of two ways to walk -/
theorem pi_or {X : Cx} {tg l : Expr} {w1 w2 : TI} (h1 : PI X tg l w1) (h2 : PI X tg l w2) : PI X tg l (fun σ H R => w1 σ H R ∨ w2 σ H R) :=
  ⟨fun pins s σ M R I h => h.elim (fun q => h1.run pins s σ M R I q) (fun q => h2.run pins s σ M R I q)⟩
/-- an item of a list or a tuple -/
def rIxE (K : PySem.W.Frag) : R2 := fun x y H Q => rIxL K x y H Q ∨ rIxT K x y H Q
theorem ix_either {X : Cx} : IxR X (rIxE X.K) := IxR.or ix_list ix_tup
end My

namespace My
open PySem PySem.Spec PyProof.Rows L2
/-! ### lists that lie above the table of modules; a tuple times any small number -/
def rCatN : R2 := fun x y H Q => ∃ l b xs zs, x = .ref l ∧ y = .ref b ∧ H l = some (.lst xs) ∧ H b = some (.lst zs) ∧ xs.length + zs.length ≤ sizeLine ∧ ∀ p, H p = none → sysModules < p → Q (.ref p) (L2.upd H p (.lst (xs ++ zs)))
theorem op_catN {X : Cx} : OpR X (binaryOp .Add) rCatN := by
  intro pins s σ H x y v u Q I rx ry h
  obtain ⟨l, b, xs, zs, rfl, rfl, hH, hB, hz, q⟩ := h
  cases rx
  cases ry
  have big := I.big
  obtain ⟨z, its, n, r, hl, e⟩ := I.lstM hH
  obtain ⟨z2, its2, n2, r2, hl2, e2⟩ := I.lstM hB
  refine PySem.P.add_list e e2 ?_ (by rw [List.size_toArray, List.size_toArray]; omega)
  rw [show its.toArray ++ its2.toArray = (its ++ its2).toArray by simp]
  exact ⟨.ref _, _, I.lnew (t' := s.toks) (r.append r2) (by rw [List.length_append]; omega), rfl, q _ I.fresh big⟩
def rSlLN (K : PySem.W.Frag) : V → Option Int → Option Int → Hp → VK → Prop := fun x lo hi H Q => ∃ a xs, x = .ref a ∧ SqL K H a xs ∧ ∀ p, H p = none → sysModules < p → Q (.ref p) (L2.upd H p (.lst (cutV xs lo hi)))
theorem sl_listN {X : Cx} : SlR X (rSlLN X.K) := by
  intro pins s σ H x v vl vu lo hi sl Q I rx hs pl pu h
  obtain ⟨a, xs, rfl, hx, q⟩ := h
  cases rx
  have big := I.big
  obtain ⟨its, r, ht, hz⟩ := I.list hx
  have hlen := r.length
  refine ⟨"list", _, slot_list_getitem.lookup, ht.isList.typeIs, ?_⟩
  refine wpAny_getItem_list_slice ht.isList hs pl pu .none (by simp) ?_ (by rw [List.size_toArray] <;> omega)
  rw [slicePick_cut, ← hlen]
  refine ⟨.ref s.heap.objs.size, _, I.laid (t' := s.toks) (o := .lst (cutV xs lo hi)) (fun b ob q => Heap.get?_push_of_some _ q) (Nat.le_refl _) ?_, rfl, q _ (I.hok.fresh (Nat.le_refl _)) big⟩
  exact ⟨Nat.le_trans (cutV_length xs lo hi) hz, _, 0, (r.drop (HT.sIx xs.length 0 lo)).take (HT.sIx xs.length xs.length hi - HT.sIx xs.length 0 lo), Heap.get?_push_size _ rfl⟩
def CMulW (i j : Int) : Prop := (-(10 ^ 40) < i ∧ i < 10 ^ 40) ∧ (-(10 ^ 40) < j ∧ j < 10 ^ 40)
theorem bits_w {k : Int} (h : -(10 ^ 40) < k ∧ k < 10 ^ 40) : Builtin.Int.intBits k ≤ 2 ^ 20 := by
  unfold Builtin.Int.intBits
  split
  · exact Nat.zero_le _
  · have hn : k.natAbs < 2 ^ 133 := by
      have : (10 : Int) ^ 40 ≤ 2 ^ 133 := by decide
      omega
    have : k.natAbs.log2 < 133 := by
      rcases Nat.eq_zero_or_pos k.natAbs with h0 | hp
      · rw [h0]; decide
      · exact (Nat.log2_lt (Nat.ne_of_gt hp)).mpr hn
    have : (133 : Nat) ≤ 2 ^ 20 := by decide
    omega
theorem op_mulW {X : Cx} : OpR X (binaryOp .Mult) (rI CMulW fun i j => .int (i * j)) := opI fun _ _ _ _ _ _ _ hc q => mul_int q (.of_bits (bits_w hc.1) (bits_w hc.2))
/-- (0,) times n -/
def rNil : R2 := fun x y H Q => ∃ (l : Addr) (n : Nat) (c : V), x = .ref l ∧ y = .int (n : Nat) ∧ H l = some (.tup [c]) ∧ n ≤ 1000 ∧ ∀ (p : Addr) (H' : Hp), Same H H' → H' p = some (.tup (List.replicate n c)) → Q (.ref p) H'
theorem op_repAll {X : Cx} : OpR X (binaryOp .Mult) rNil := by
  intro pins s σ H x y v u Q I rx ry h
  obtain ⟨l, n, c, rfl, rfl, hT, hn, q⟩ := h
  match n, hn with
  | 0, _ => exact op_repT01 pins s σ H _ _ v u Q I rx ry ⟨l, [c], rfl, SqT.of hT, by simp, .inl ⟨rfl, fun p hp => q p _ (same_new hp _) upd_same⟩⟩
  | 1, _ => exact op_repT01 pins s σ H _ _ v u Q I rx ry ⟨l, [c], rfl, SqT.of hT, by simp, .inr ⟨rfl, q l H (fun _ _ e => e) hT⟩⟩
  | n + 2, hn =>
    refine op_repT pins s σ H _ _ v u Q I rx ry ⟨l, _, [c], rfl, rfl, SqT.of hT, by simp, by omega, by omega, by simp, fun p hp => q p _ (same_new hp _) ?_⟩
    rw [upd_same, Int.toNat_natCast]
    have : ∀ m : Nat, (List.replicate m [c]).flatten = List.replicate m c := fun m => by
      induction m with
      | zero => rfl
      | succ m ih => rw [List.replicate_succ, List.flatten_cons, ih]; rfl
    rw [this]
end My

namespace My
open PySem PySem.Spec PyProof.Rows L2
/-! ### accounts and prices judged -/
theorem is_int {K : PySem.W.Frag} (d : PyData) : PySem.W.kitOne K (.type (tyD d)) (.type "int") = some (decide (tyD d = "int") || decide (tyD d = "bool")) := by
  cases d with
  | none => exact (kit_ty (r := false) (by decide +kernel) : PySem.W.kitOne K (.type "NoneType") (.type "int") = some false)
  | bool _ => exact (kit_ty (r := true) (by decide +kernel) : PySem.W.kitOne K (.type "bool") (.type "int") = some true)
  | int _ => exact (kit_ty (r := true) (by decide +kernel) : PySem.W.kitOne K (.type "int") (.type "int") = some true)
  | str _ => exact (kit_ty (r := false) (by decide +kernel) : PySem.W.kitOne K (.type "str") (.type "int") = some false)
  | list _ => exact (kit_ty (r := false) (by decide +kernel) : PySem.W.kitOne K (.type "list") (.type "int") = some false)
  | tuple _ => exact (kit_ty (r := false) (by decide +kernel) : PySem.W.kitOne K (.type "tuple") (.type "int") = some false)
  | dict _ => exact (kit_ty (r := false) (by decide +kernel) : PySem.W.kitOne K (.type "dict") (.type "int") = some false)
theorem is_bool {K : PySem.W.Frag} (d : PyData) : PySem.W.kitOne K (.type (tyD d)) (.type "bool") = some (decide (tyD d = "bool")) := by
  cases d with
  | none => exact (kit_ty (r := false) (by decide +kernel) : PySem.W.kitOne K (.type "NoneType") (.type "bool") = some false)
  | bool _ => exact (kit_ty (r := true) (by decide +kernel) : PySem.W.kitOne K (.type "bool") (.type "bool") = some true)
  | int _ => exact (kit_ty (r := false) (by decide +kernel) : PySem.W.kitOne K (.type "int") (.type "bool") = some false)
  | str _ => exact (kit_ty (r := false) (by decide +kernel) : PySem.W.kitOne K (.type "str") (.type "bool") = some false)
  | list _ => exact (kit_ty (r := false) (by decide +kernel) : PySem.W.kitOne K (.type "list") (.type "bool") = some false)
  | tuple _ => exact (kit_ty (r := false) (by decide +kernel) : PySem.W.kitOne K (.type "tuple") (.type "bool") = some false)
  | dict _ => exact (kit_ty (r := false) (by decide +kernel) : PySem.W.kitOne K (.type "dict") (.type "bool") = some false)
def seqB (d : PyData) : Bool := match d with
  | .list _ => true
  | .tuple _ => true
  | _ => false
theorem is_seq {K : PySem.W.Frag} (d : PyData) : PySem.W.kitAny K (.type (tyD d)) [.type "list", .type "tuple"] = some (seqB d) := by
  cases d with
  | list _ => exact kitAny_cons (b := true) (kit_ty (r := true) (by decide +kernel) : PySem.W.kitOne K (.type "list") (.type "list") = some true) (fun z => nomatch z) (fun _ => rfl)
  | tuple _ => exact kitAny_cons (b := false) (kit_ty (r := false) (by decide +kernel) : PySem.W.kitOne K (.type "tuple") (.type "list") = some false) (fun _ => kitAny_cons (b := true) (kit_ty (r := true) (by decide +kernel) : PySem.W.kitOne K (.type "tuple") (.type "tuple") = some true) (fun z => nomatch z) (fun _ => rfl)) (fun z => nomatch z)
  | none => exact kitAny_cons (b := false) (kit_ty (r := false) (by decide +kernel) : PySem.W.kitOne K (.type "NoneType") (.type "list") = some false) (fun _ => kitAny_cons (b := false) (kit_ty (r := false) (by decide +kernel) : PySem.W.kitOne K (.type "NoneType") (.type "tuple") = some false) (fun _ => kitAny_nil) (fun z => nomatch z)) (fun z => nomatch z)
  | bool _ => exact kitAny_cons (b := false) (kit_ty (r := false) (by decide +kernel) : PySem.W.kitOne K (.type "bool") (.type "list") = some false) (fun _ => kitAny_cons (b := false) (kit_ty (r := false) (by decide +kernel) : PySem.W.kitOne K (.type "bool") (.type "tuple") = some false) (fun _ => kitAny_nil) (fun z => nomatch z)) (fun z => nomatch z)
  | int _ => exact kitAny_cons (b := false) (kit_ty (r := false) (by decide +kernel) : PySem.W.kitOne K (.type "int") (.type "list") = some false) (fun _ => kitAny_cons (b := false) (kit_ty (r := false) (by decide +kernel) : PySem.W.kitOne K (.type "int") (.type "tuple") = some false) (fun _ => kitAny_nil) (fun z => nomatch z)) (fun z => nomatch z)
  | str _ => exact kitAny_cons (b := false) (kit_ty (r := false) (by decide +kernel) : PySem.W.kitOne K (.type "str") (.type "list") = some false) (fun _ => kitAny_cons (b := false) (kit_ty (r := false) (by decide +kernel) : PySem.W.kitOne K (.type "str") (.type "tuple") = some false) (fun _ => kitAny_nil) (fun z => nomatch z)) (fun z => nomatch z)
  | dict _ => exact kitAny_cons (b := false) (kit_ty (r := false) (by decide +kernel) : PySem.W.kitOne K (.type "dict") (.type "list") = some false) (fun _ => kitAny_cons (b := false) (kit_ty (r := false) (by decide +kernel) : PySem.W.kitOne K (.type "dict") (.type "tuple") = some false) (fun _ => kitAny_nil) (fun z => nomatch z)) (fun z => nomatch z)
/-- data, or a list of ints -/
def Vw (H : Hp) (v : V) (d : PyData) : Prop := Dq H v d ∨ ∃ (a : Addr) (ns : List Int), v = .ref a ∧ H a = some (.lst (ns.map V.int)) ∧ d = .list (ns.map PyData.int)
theorem Vw.same {H H' : Hp} {v : V} {d : PyData} (e : Same H H') (h : Vw H v d) : Vw H' v d := by
  rcases h with h | ⟨a, ns, h1, h2, h3⟩
  · exact .inl (h.same e)
  · exact .inr ⟨a, ns, h1, e _ _ h2, h3⟩
theorem dq_ints {H : Hp} : ∀ ns : List Int, DqAll H (ns.map V.int) (ns.map PyData.int)
  | [] => .nil
  | n :: ns => .cons (.int n) (dq_ints ns)
theorem Vw.ty {K : PySem.W.Frag} {H : Hp} {v : V} {d : PyData} (h : Vw H v d) : TyX K H v (.type (tyD d)) := by
  rcases h with h | ⟨a, ns, rfl, h2, rfl⟩
  · exact h.ty
  · exact .base (.lst h2)
def itemsD (d : PyData) : List PyData := match d with
  | .list ds => ds
  | .tuple ds => ds
  | _ => []
/-- a list or a tuple that is tracked -/
def TrK (k : Bool) (H : Hp) (a : Addr) (xs : List V) : Prop := match k with
  | false => H a = some (.lst xs)
  | true => H a = some (.tup xs)
theorem TrK.sq {k : Bool} {K : PySem.W.Frag} {H : Hp} {a : Addr} {xs : List V} (h : TrK k H a xs) : SqK k K H a xs := by
  cases k
  · exact SqL.of h
  · exact SqT.of h
theorem TrK.same {k : Bool} {H H' : Hp} {a : Addr} {xs : List V} (e : Same H H') (h : TrK k H a xs) : TrK k H' a xs := by
  cases k
  · exact e _ _ h
  · exact e _ _ h
theorem Vw.seq {H : Hp} {v : V} {d : PyData} (h : Vw H v d) (s : seqB d = true) : ∃ (k : Bool) (a : Addr) (xs : List V), v = .ref a ∧ TrK k H a xs ∧ DqAll H xs (itemsD d) := by
  rcases h with h | ⟨a, ns, rfl, h2, rfl⟩
  · cases h with
    | lst e _ hs => exact ⟨false, _, _, rfl, e, hs⟩
    | tup e hs => exact ⟨true, _, _, rfl, e, hs⟩
    | _ => cases s
  · exact ⟨false, a, _, rfl, h2, dq_ints ns⟩
def isIntD (d : PyData) : Bool := match d with
  | .int _ => true
  | _ => false
def isNumD (d : PyData) : Bool := match d with
  | .int i => decide (i ≥ 0)
  | _ => false
/-- the place of the first item that is not of a kind -/
def firstN (f : PyData → Bool) : Nat → List PyData → Option (List Int)
  | _, [] => none
  | i, d :: ds => if f d = true then firstN f (i + 1) ds else some [(i : Int)]
theorem first_none {f : PyData → Bool} : ∀ {ds : List PyData} {k : Nat}, (∀ (j : Nat) (d : PyData), ds[j]? = some d → f d = true) → firstN f k ds = none
  | [], _, _ => rfl
  | d :: ds, k, h => by
    unfold firstN
    rw [if_pos (h 0 d rfl)]
    exact first_none fun j d' e => h (j + 1) d' e
theorem first_at {f : PyData → Bool} : ∀ {ds : List PyData} {k i : Nat} {d : PyData}, (∀ (j : Nat) (d : PyData), j < i → ds[j]? = some d → f d = true) → ds[i]? = some d → f d = false → firstN f k ds = some [((k + i : Nat) : Int)]
  | d :: ds, k, 0, _, _, e, b => by
    cases e
    unfold firstN
    rw [b]; rfl
  | d :: ds, k, i + 1, d', h, e, b => by
    unfold firstN
    rw [if_pos (h 0 d (Nat.succ_pos i) rfl), first_at (k := k + 1) (i := i) (fun j x hj q => h (j + 1) x (Nat.succ_lt_succ hj) q) e b]
    rw [show k + 1 + i = k + (i + 1) by omega]
def wrongA (n : Nat) (d : PyData) : Option (List Int) := match d with
  | .tuple ds => if ds.length = n then firstN isIntD 0 ds else some []
  | _ => some []
def wrongP (n : Nat) (d : PyData) : Option (List Int) := if seqB d = true then (if (itemsD d).length = n then firstN isNumD 0 (itemsD d) else some []) else some []
def spIntD : Sp := fun vs H Q _ => ∃ (v : V) (d : PyData), vs = [v] ∧ Dq H v d ∧ Q (.bl (isIntD d)) H
def spNumD : Sp := fun vs H Q _ => ∃ (v : V) (d : PyData), vs = [v] ∧ Dq H v d ∧ Q (.bl (isNumD d)) H
/-- an error with a path is made -/
def spInP (C : Addr) : Sp := fun vs H Q _ => ∃ (a t : Addr) (ys : List V), vs = [.ref a, .ref t] ∧ H a = some (exo a C none) ∧ H t = some (.tup ys) ∧
  ∀ dx, H dx = none → dx ≠ a → Q .non (L2.upd (L2.upd H dx (exd dx [("path", .ref t)])) a (exo a C (some dx)))
/-- an error with this path is raised -/
def Path (C : Addr) (H : Hp) (ks : List Int) (E : XK) : Prop := ∀ (dx t : Addr) (H' : Hp), Same H H' → H' dx = some (.xd [("path", .ref t)]) → H' t = some (.tup (ks.map V.int)) → E (.ref C) (some dx) H'
def spCheck (wr : Nat → PyData → Option (List Int)) (C Ce : Addr) : Sp := fun vs H Q E => ∃ (x : Addr) (gs : List Str) (bs : List Br) (v : V) (d : PyData), vs = [.ref x, v] ∧ BookH C H x gs bs ∧ bs.length ≤ 100 ∧ Vw H v d ∧
  (wr bs.length d = none → ∀ H', Same H H' → Q .non H') ∧ (∀ ks, wr bs.length d = some ks → Path Ce H ks E)
theorem mk_fin {M : Hp} {a dx C : Addr} {fs : List (Str × V)} (ha : M a = none) (h1 : L2.upd M a (exo a C none) dx = none) (h2 : dx ≠ a) :
    Same M (L2.upd (del (L2.upd (L2.upd (L2.upd M a (exo a C none)) dx (exd dx fs)) a (exo a C (some dx))) a) dx (.xd fs)) := fun y u hy => by
  rw [upd_ne h2] at h1
  have n1 : y ≠ a := ne_of_none hy ha
  have n2 : y ≠ dx := ne_of_none hy h1
  rw [upd_ne n2, del_ne n1, upd_ne n1, upd_ne n2, upd_ne n1]
  exact hy
/-- the end of «raise C(path)» -/
theorem raise_fin {C : Addr} {M : Hp} {t : Addr} {ks : List Int} {E : XK} (ht : M t = some (.tup (ks.map V.int))) (k : Path C M ks E) : ∀ a, M a = none → spInP C [.ref a, .ref t] (L2.upd M a (exo a C none))
    (fun v H2 => v = .non ∧ ∃ (d : Addr) (fs : List (Str × V)), H2 a = some (exo a C (some d)) ∧ H2 d = some (exd d fs) ∧ M d = none ∧ E (.ref C) (some d) (L2.upd (del H2 a) d (.xd fs))) (fun _ _ _ => False) := fun a ha => by
  refine ⟨a, t, _, rfl, upd_same, same_new ha _ _ _ ht, fun dx h1 h2 => ⟨rfl, dx, [("path", .ref t)], upd_same, ?_, ?_, ?_⟩⟩
  · rw [upd_ne h2]; exact upd_same
  · rw [upd_ne h2] at h1; exact h1
  · have s := mk_fin (fs := [("path", .ref t)]) (C := C) ha h1 h2
    exact k dx t _ s upd_same (s _ _ ht)
theorem Path.same {C : Addr} {H H1 : Hp} {ks : List Int} {E : XK} (e : Same H H1) (h : Path C H ks E) : Path C H1 ks E := fun dx t H' s h1 h2 => h dx t H' (e.trans s) h1 h2
section
variable {P : Program} {w : World} {K : PySem.W.Frag} {mg : Str → Option Value} {base : Heap}
theorem oki_BadAccount (T : Tx K mg) : FnOk P w K mg base CX0 2 T.e_BadAccount.fI T.e_BadAccount.fd ["self", "path"] (spInP T.e_BadAccount.C) := by
  refine T.e_BadAccount.F.ok sc_BadAccount (fun vs H Q E h => ?_) (fun cdv A outer st H vs Q E hr h => ?_)
  · obtain ⟨a, t, ys, rfl, _⟩ := h
    rfl
  obtain ⟨a, t, ys, rfl, ha, ht, k⟩ := h
  refine ⟨_, pss_one (ps_ost (pv 0) (pe_callTy (show CallR _ (.type "tuple") (rTupOf K) from call_tupK) (by rfl) T.n_tuple (by decide +kernel) (pa_cons (pv 1) pa_nil))), ?_⟩
  exact ⟨_, rfl, t, ys, rfl, .inr ⟨SqT.of ht, _, rfl, a, _, rfl, T.e_BadAccount.oex, T.e_BadAccount.noF, .inl ⟨ha, fun dx h1 h2 => k dx h1 h2⟩⟩⟩
theorem oki_BadPrices (T : Tx K mg) : FnOk P w K mg base CX0 2 T.e_BadPrices.fI T.e_BadPrices.fd ["self", "path"] (spInP T.e_BadPrices.C) := by
  refine T.e_BadPrices.F.ok sc_BadPrices (fun vs H Q E h => ?_) (fun cdv A outer st H vs Q E hr h => ?_)
  · obtain ⟨a, t, ys, rfl, _⟩ := h
    rfl
  obtain ⟨a, t, ys, rfl, ha, ht, k⟩ := h
  refine ⟨_, pss_one (ps_ost (pv 0) (pe_callTy (show CallR _ (.type "tuple") (rTupOf K) from call_tupK) (by rfl) T.n_tuple (by decide +kernel) (pa_cons (pv 1) pa_nil))), ?_⟩
  exact ⟨_, rfl, t, ys, rfl, .inr ⟨SqT.of ht, _, rfl, a, _, rfl, T.e_BadPrices.oex, T.e_BadPrices.noF, .inl ⟨ha, fun dx h1 h2 => k dx h1 h2⟩⟩⟩
theorem ok_isint (T : Tx K mg) : FnOk P w K mg base CX0 1 T.a_is_integer T.fd_is_integer ["value"] spIntD := by
  refine T.F_is_integer.ok sc_is_integer (fun vs H Q E h => ?_) (fun cdv A outer st H vs Q E hr h => ?_)
  · obtain ⟨v, d, rfl, _⟩ := h
    rfl
  obtain ⟨v, d, rfl, dq, k⟩ := h
  refine ⟨_, ((pss_one (ps_ret (pe_and (pe_callB (show CallR _ (.builtin "isinstance") (rIsi K) from call_isi) (by rfl) T.n_isinstance (by decide +kernel) (pa_cons (pv 0) (pa_cons (pe_bltn (v := .ty "int") (by rfl) T.n_int (by decide +kernel) rfl) pa_nil))) (pe_one (pe_not (pe_callB (show CallR _ (.builtin "isinstance") (rIsi K) from call_isi) (by rfl) T.n_isinstance (by decide +kernel) (pa_cons (pv 0) (pa_cons (pe_bltn (v := .ty "bool") (by rfl) T.n_bool (by decide +kernel) rfl) pa_nil))))))))), ?_⟩
  refine ⟨_, rfl, v, .ty "int", .type (tyD d), .type "int", _, rfl, .ty _, dq.ty, is_int d, ?_⟩
  have two : ∀ R : VK, R (.bl (!decide (tyD d = "bool"))) H → tNotV (tCB (rIsi K) (tCons (tVar 0) (tCons (tC (.ty "bool")) tNil))) (L2.start ["value"] [v]) H R := fun R r => ⟨_, rfl, v, .ty "bool", .type (tyD d), .type "bool", _, rfl, .ty _, dq.ty, is_bool d, ⟨_, rfl, r⟩⟩
  cases d with
  | int i => exact ⟨_, rfl, iteT (two _ k)⟩
  | bool b => exact ⟨_, rfl, iteT (two _ k)⟩
  | none => exact ⟨_, rfl, iteF k⟩
  | str _ => exact ⟨_, rfl, iteF k⟩
  | list _ => exact ⟨_, rfl, iteF k⟩
  | tuple _ => exact ⟨_, rfl, iteF k⟩
  | dict _ => exact ⟨_, rfl, iteF k⟩
theorem ok_isnum (T : Tx K mg) : FnOk P w K mg base CX0 2 T.a_is_number T.fd_is_number ["value"] spNumD := by
  refine T.F_is_number.ok sc_is_number (fun vs H Q E h => ?_) (fun cdv A outer st H vs Q E hr h => ?_)
  · obtain ⟨v, d, rfl, _⟩ := h
    rfl
  obtain ⟨v, d, rfl, dq, k⟩ := h
  have G_is_integer : FnOk P w K mg base CX0 1 T.a_is_integer T.fd_is_integer ["value"] spIntD := ok_isint T
  have hr_is_integer : Room 1 _ := hr
  refine ⟨_, ((pss_one (ps_ret (pe_and (pe_call G_is_integer hr_is_integer rfl T.m_is_integer T.F_is_integer.kp T.b_is_integer .nil pass0 (pa_cons (pv 0) pa_nil)) (pe_one (pe_cmpR op_ge (pv 0) pe_int (nomark _))))))), ?_⟩
  refine ⟨_, rfl, v, d, rfl, dq, ?_⟩
  cases dq with
  | int i => exact ⟨_, rfl, iteT ⟨_, rfl, _, _, rfl, rfl, k⟩⟩
  | _ => exact ⟨_, rfl, iteF k⟩
end
end My

namespace My
open PySem PySem.Spec PyProof.Rows L2
theorem Vw.tup {H : Hp} {v : V} {ds : List PyData} (h : Vw H v (.tuple ds)) : ∃ (a : Addr) (xs : List V), v = .ref a ∧ H a = some (.tup xs) ∧ DqAll H xs ds := by
  rcases h with h | ⟨a, ns, rfl, h2, e⟩
  · cases h with
    | tup e hs => exact ⟨_, _, rfl, e, hs⟩
  · cases e
theorem DqAll.at_ {H : Hp} {xs : List V} {ds : List PyData} {i : Nat} {v : V} (h : DqAll H xs ds) (e : xs[i]? = some v) : ∃ d, ds[i]? = some d ∧ Dq H v d := by
  have l := (List.getElem?_eq_some_iff.mp e).1
  rw [h.length] at l
  obtain ⟨v', e2, q⟩ := h.get (List.getElem?_eq_getElem l)
  rw [e] at e2
  cases e2
  exact ⟨_, List.getElem?_eq_getElem l, q⟩
theorem sq_same {k : Bool} {K : PySem.W.Frag} {H H' : Hp} {a : Addr} {xs : List V} (e : Same H H') (h : SqK k K H a xs) : SqK k K H' a xs := by
  cases k
  · exact e.seq h
  · exact seqT e h
theorem sq_or {k : Bool} {K : PySem.W.Frag} {H : Hp} {a : Addr} {xs : List V} (h : SqK k K H a xs) : SqL K H a xs ∨ SqT K H a xs := by
  cases k
  · exact .inl h
  · exact .inr h
section
variable {P : Program} {w : World} {K : PySem.W.Frag} {mg : Str → Option Value} {base : Heap}
theorem ok_check_account (T : Tx K mg) : FnOk P w K mg base (L2.CX P w) 4 T.a_check_account T.fd_check_account ["book", "account"] (spCheck wrongA T.C_Book T.e_BadAccount.C) := by
  refine T.F_check_account.okX sc_check_account (fun vs H Q E h => ?_) (fun cdv A outer st H vs Q E hr h => ?_)
  · obtain ⟨x, gs, bs, v, d, rfl, _⟩ := h
    rfl
  obtain ⟨x, gs, bs, v, d, rfl, hB, bl, hv, kN, kE⟩ := h
  obtain ⟨dx, tg, tb, dg, db, ps, h1, h2, h3, h4, h5, h6⟩ := id hB
  have G_is_integer : FnOk P w K mg base CX0 1 T.a_is_integer T.fd_is_integer ["value"] spIntD := ok_isint T
  have hr_is_integer : Room 1 _ := hr.mono (by omega)
  have G_Book_names : FnOk P w K mg base CX0 1 T.a_Book_names T.fd_Book_names ["self"] (spNames34 T.C_Book) := ok_Book_names T
  have hr_Book_names : Room 1 _ := hr.mono (by omega)
  have hr3 : Room 3 _ := hr
  refine ⟨_, ((pss_cons (ps_if (PW.pt (pw_or (pt_not (pt_val (pe_callB (show CallR _ (.builtin "isinstance") (rIsi K) from call_isi) (by rfl) T.n_isinstance (by decide +kernel) (pa_cons (pv 1) (pa_cons (pe_bltn (v := .ty "tuple") (by rfl) T.n_tuple (by decide +kernel) rfl) pa_nil))))) (pw_or1 (pt_cmpR op_ne (pe_callB call_len_seq (by rfl) T.n_len (by decide +kernel) (pa_cons (pv 1) pa_nil)) (pe_callB call_len_seq (by rfl) T.n_len (by decide +kernel) (pa_cons (pe_meth0 (pv 0) T.cl_Book T.me_Book_names G_Book_names hr_Book_names T.b_Book_names .nil pass0) pa_nil)) (nomark _)))))
        (pss_one (ps_raise rfl (takes_of rfl rfl rfl rfl) (pmk_oex T.e_BadAccount.oex T.e_BadAccount.iC T.e_BadAccount.tI (oki_BadAccount T) hr3 T.e_BadAccount.b .nil pass0 rfl T.e_BadAccount.m (pa_cons (pe_tup pa_nil) pa_nil))))
        pss_nil)
      (pss_one (ps_for (passes_of rfl) rfl (pi_enumM (by rfl) T.n_enumerate (pa_cons (pv 1) pa_nil)) (pg_tup rfl (pgs_cons (pg_name (i := 2) sc_check_account.nd rfl (Or.inl rfl)) (pgs_cons (pg_name (i := 3) sc_check_account.nd rfl (Or.inl rfl)) pgs_nil)))
        (pss_one (ps_if (pt_not (pt_val (pe_call G_is_integer hr_is_integer rfl T.m_is_integer T.F_is_integer.kp T.b_is_integer .nil pass0 (pa_cons (pv 3) pa_nil))))
        (pss_one (ps_raise rfl (takes_of rfl rfl rfl rfl) (pmk_oex T.e_BadAccount.oex T.e_BadAccount.iC T.e_BadAccount.tI (oki_BadAccount T) hr3 T.e_BadAccount.b .nil pass0 rfl T.e_BadAccount.m (pa_cons (pe_tup (pa_cons (pv 2) pa_nil)) pa_nil))))
        pss_nil)))))), ?_⟩
  refine ⟨_, rfl, v, .ty "tuple", .type (tyD d), .type "tuple", _, rfl, .ty _, hv.ty, is_tup d, ?_⟩
  cases d with
  | tuple ds =>
    obtain ⟨a, xs, rfl, ha, hs⟩ := hv.tup
    refine ⟨_, rfl, iteF ?_⟩
    refine ⟨_, rfl, a, xs, rfl, .inr (SqT.of ha), _, rfl, x, dx, _, rfl, h1, rfl, x, dx, tb, _, ps, bs, rfl, h1, rfl, h3, h4, bl, fun D M s1 nD eD => ⟨D, _, rfl, .inl (SqL.of eD), rfl, _, rfl, ?_⟩⟩
    have lx := hs.length
    rw [List.length_map, List.length_map]
    by_cases e : ds.length = bs.length
    · refine iteN (fun z => absurd (by rw [lx, e]) z) (fun _ => ?_)
      have ha1 := s1 _ _ ha
      have hs1 := hs.same s1
      have wA : wrongA bs.length (.tuple ds) = firstN isIntD 0 ds := if_pos e
      refine ⟨_, rfl, true, a, xs, rfl, SqT.of ha1, for_it walk_enumM (fun i σ N => ∃ v2 v3 : Option V, σ = [some (.ref x), some (.ref a), v2, v3] ∧ Same M N ∧ ∀ (j : Nat) (d : PyData), j < i → ds[j]? = some d → isIntD d = true)
        ⟨none, none, rfl, (fun _ _ z => z), fun j d h => absurd h (Nat.not_lt_zero _)⟩ (fun i σ N _ ⟨_, _, _, z, _⟩ => SqT.of (z _ _ ha1)) (fun i y σ N N' hi z yy => ?_) (fun σ N z => ?_)⟩
      · obtain ⟨v2, v3, rfl, sN, ok⟩ := z
        obtain ⟨C, u, v', rfl, nC, rfl, eu, ev⟩ := yy
        cases eu
        obtain ⟨d', ed, dq⟩ := hs1.at_ ev
        have sC := same_new nC (.tup [.int (i : Nat), v'])
        refine ⟨C, _, rfl, SqT.of upd_same, rfl, _, _, rfl, _, _, rfl, rfl, ?_⟩
        refine ⟨_, rfl, v', d', rfl, dq.same (sN.trans sC), ⟨_, rfl, ?_⟩⟩
        cases b : isIntD d' with
        | true =>
          refine iteF ⟨_, _, rfl, sN.trans sC, fun j d hj q => ?_⟩
          rcases Nat.lt_succ_iff_lt_or_eq.mp hj with h | h
          · exact ok j d h q
          · subst h
            rw [ed] at q
            cases q
            exact b
        | false =>
          have e1 : wrongA bs.length (.tuple ds) = some [((i : Nat) : Int)] := by
            rw [wA, first_at ok ed b, Nat.zero_add]
          exact iteT ⟨_, rfl, (by show 1 ≤ sizeLine; decide), fun t ht => ⟨(by show 1 ≤ 1000; decide), raise_fin (ks := [((i : Nat) : Int)]) upd_same ((kE _ e1).same (s1.trans ((sN.trans sC).trans (same_new ht _))))⟩⟩
      · obtain ⟨v2, v3, rfl, sN, ok⟩ := z
        refine kN ?_ N (s1.trans sN)
        rw [wA]
        exact first_none fun j d q => ok j d (by rw [lx]; exact (List.getElem?_eq_some_iff.mp q).1) q
    · refine iteN (fun _ => ?_) (fun z => absurd z ?_)
      · exact ⟨Nat.zero_le _, fun t ht => ⟨(by show 1 ≤ 1000; decide), raise_fin (ks := []) upd_same ((kE _ (if_neg e)).same (s1.trans (same_new ht _)))⟩⟩
      · intro q
        have := V.int.inj q
        omega
  | none => exact ⟨_, rfl, iteT (iteT ⟨Nat.zero_le _, fun t ht => ⟨(by show 1 ≤ 1000; decide), raise_fin (ks := []) upd_same ((kE _ rfl).same (same_new ht _))⟩⟩)⟩
  | bool _ => exact ⟨_, rfl, iteT (iteT ⟨Nat.zero_le _, fun t ht => ⟨(by show 1 ≤ 1000; decide), raise_fin (ks := []) upd_same ((kE _ rfl).same (same_new ht _))⟩⟩)⟩
  | int _ => exact ⟨_, rfl, iteT (iteT ⟨Nat.zero_le _, fun t ht => ⟨(by show 1 ≤ 1000; decide), raise_fin (ks := []) upd_same ((kE _ rfl).same (same_new ht _))⟩⟩)⟩
  | str _ => exact ⟨_, rfl, iteT (iteT ⟨Nat.zero_le _, fun t ht => ⟨(by show 1 ≤ 1000; decide), raise_fin (ks := []) upd_same ((kE _ rfl).same (same_new ht _))⟩⟩)⟩
  | list _ => exact ⟨_, rfl, iteT (iteT ⟨Nat.zero_le _, fun t ht => ⟨(by show 1 ≤ 1000; decide), raise_fin (ks := []) upd_same ((kE _ rfl).same (same_new ht _))⟩⟩)⟩
  | dict _ => exact ⟨_, rfl, iteT (iteT ⟨Nat.zero_le _, fun t ht => ⟨(by show 1 ≤ 1000; decide), raise_fin (ks := []) upd_same ((kE _ rfl).same (same_new ht _))⟩⟩)⟩
theorem ok_check_prices (T : Tx K mg) : FnOk P w K mg base (L2.CX P w) 4 T.a_check_prices T.fd_check_prices ["book", "prices"] (spCheck wrongP T.C_Book T.e_BadPrices.C) := by
  refine T.F_check_prices.okX sc_check_prices (fun vs H Q E h => ?_) (fun cdv A outer st H vs Q E hr h => ?_)
  · obtain ⟨x, gs, bs, v, d, rfl, _⟩ := h
    rfl
  obtain ⟨x, gs, bs, v, d, rfl, hB, bl, hv, kN, kE⟩ := h
  have G_is_number : FnOk P w K mg base CX0 2 T.a_is_number T.fd_is_number ["value"] spNumD := ok_isnum T
  have hr_is_number : Room 2 _ := hr.mono (by omega)
  have G_Book_names : FnOk P w K mg base CX0 1 T.a_Book_names T.fd_Book_names ["self"] (spNames34 T.C_Book) := ok_Book_names T
  have hr_Book_names : Room 1 _ := hr.mono (by omega)
  have hr3 : Room 3 _ := hr
  refine ⟨_, ((pss_cons (ps_if (PW.pt (pw_or (pt_not (pt_val (pe_callB call_isiT (by rfl) T.n_isinstance (by decide +kernel) (pa_cons (pv 1) (pa_cons (pe_tup (pa_cons (pe_bltn (v := .ty "list") (by rfl) T.n_list (by decide +kernel) rfl) (pa_cons (pe_bltn (v := .ty "tuple") (by rfl) T.n_tuple (by decide +kernel) rfl) pa_nil))) pa_nil))))) (pw_or1 (pt_cmpR op_ne (pe_callB call_len_seq (by rfl) T.n_len (by decide +kernel) (pa_cons (pv 1) pa_nil)) (pe_callB call_len_seq (by rfl) T.n_len (by decide +kernel) (pa_cons (pe_meth0 (pv 0) T.cl_Book T.me_Book_names G_Book_names hr_Book_names T.b_Book_names .nil pass0) pa_nil)) (nomark _)))))
        (pss_one (ps_raise rfl (takes_of rfl rfl rfl rfl) (pmk_oex T.e_BadPrices.oex T.e_BadPrices.iC T.e_BadPrices.tI (oki_BadPrices T) hr3 T.e_BadPrices.b .nil pass0 rfl T.e_BadPrices.m (pa_cons (pe_tup pa_nil) pa_nil))))
        pss_nil)
      (pss_one (ps_for (passes_of rfl) rfl (pi_enumM (by rfl) T.n_enumerate (pa_cons (pv 1) pa_nil)) (pg_tup rfl (pgs_cons (pg_name (i := 2) sc_check_prices.nd rfl (Or.inl rfl)) (pgs_cons (pg_name (i := 3) sc_check_prices.nd rfl (Or.inl rfl)) pgs_nil)))
        (pss_one (ps_if (pt_not (pt_val (pe_call G_is_number hr_is_number rfl T.m_is_number T.F_is_number.kp T.b_is_number .nil pass0 (pa_cons (pv 3) pa_nil))))
        (pss_one (ps_raise rfl (takes_of rfl rfl rfl rfl) (pmk_oex T.e_BadPrices.oex T.e_BadPrices.iC T.e_BadPrices.tI (oki_BadPrices T) hr3 T.e_BadPrices.b .nil pass0 rfl T.e_BadPrices.m (pa_cons (pe_tup (pa_cons (pv 2) pa_nil)) pa_nil))))
        pss_nil)))))), ?_⟩
  refine ⟨_, rfl, (by show 2 ≤ sizeLine; decide), fun t0 h0 => ?_⟩
  have s0 := same_new h0 (.tup [.ty "list", .ty "tuple"])
  have hv := hv.same s0
  have hB := BookH.same s0 hB
  obtain ⟨dx, tg, tb, dg, db, ps, h1, h2, h3, h4, h5, h6⟩ := id hB
  refine ⟨v, t0, [.ty "list", .ty "tuple"], .type (tyD d), [.type "list", .type "tuple"], _, rfl, upd_same, .cons (.ty _) (.cons (.ty _) .nil), hv.ty, is_seq d, ?_⟩
  have kE : ∀ ks, wrongP bs.length d = some ks → Path T.e_BadPrices.C (L2.upd H t0 (.tup [.ty "list", .ty "tuple"])) ks E := fun ks e => (kE ks e).same s0
  have kN : wrongP bs.length d = none → ∀ H', Same (L2.upd H t0 (.tup [.ty "list", .ty "tuple"])) H' → Q .non H' := fun e H' z => kN e H' (s0.trans z)
  generalize L2.upd H t0 (.tup [.ty "list", .ty "tuple"]) = H1 at *
  cases sb : seqB d with
  | false => exact ⟨_, rfl, iteT (iteT ⟨Nat.zero_le _, fun t ht => ⟨(by show 1 ≤ 1000; decide), raise_fin (ks := []) upd_same ((kE _ (by unfold wrongP; rw [sb]; rfl)).same (same_new ht _))⟩⟩)⟩
  | true =>
    obtain ⟨kk, a, xs, rfl, ha, hs⟩ := hv.seq sb
    refine ⟨_, rfl, iteF ?_⟩
    refine ⟨_, rfl, a, xs, rfl, sq_or ha.sq, _, rfl, x, dx, _, rfl, h1, rfl, x, dx, tb, _, ps, bs, rfl, h1, rfl, h3, h4, bl, fun D M s1 nD eD => ⟨D, _, rfl, .inl (SqL.of eD), rfl, _, rfl, ?_⟩⟩
    have lx := hs.length
    rw [List.length_map, List.length_map]
    by_cases e : (itemsD d).length = bs.length
    · refine iteN (fun z => absurd (by rw [lx, e]) z) (fun _ => ?_)
      have ha1 := (sq_same s1 ha.sq : SqK kk K M a xs)
      have hs1 := hs.same s1
      have wA : wrongP bs.length d = firstN isNumD 0 (itemsD d) := by unfold wrongP; rw [if_pos sb, if_pos e]
      refine ⟨_, rfl, kk, a, xs, rfl, ha1, for_it walk_enumM (fun i σ N => ∃ v2 v3 : Option V, σ = [some (.ref x), some (.ref a), v2, v3] ∧ Same M N ∧ ∀ (j : Nat) (d' : PyData), j < i → (itemsD d)[j]? = some d' → isNumD d' = true)
        ⟨none, none, rfl, (fun _ _ z => z), fun j d h => absurd h (Nat.not_lt_zero _)⟩ (fun i σ N _ ⟨_, _, _, z, _⟩ => sq_same z ha1) (fun i y σ N N' hi z yy => ?_) (fun σ N z => ?_)⟩
      · obtain ⟨v2, v3, rfl, sN, ok⟩ := z
        obtain ⟨C, u, v', rfl, nC, rfl, eu, ev⟩ := yy
        cases eu
        obtain ⟨d', ed, dq⟩ := hs1.at_ ev
        have sC := same_new nC (.tup [.int (i : Nat), v'])
        refine ⟨C, _, rfl, SqT.of upd_same, rfl, _, _, rfl, _, _, rfl, rfl, ?_⟩
        refine ⟨_, rfl, v', d', rfl, dq.same (sN.trans sC), ⟨_, rfl, ?_⟩⟩
        cases b : isNumD d' with
        | true =>
          refine iteF ⟨_, _, rfl, sN.trans sC, fun j d hj q => ?_⟩
          rcases Nat.lt_succ_iff_lt_or_eq.mp hj with h | h
          · exact ok j d h q
          · subst h
            rw [ed] at q
            cases q
            exact b
        | false =>
          have e1 : wrongP bs.length d = some [((i : Nat) : Int)] := by
            rw [wA, first_at ok ed b, Nat.zero_add]
          exact iteT ⟨_, rfl, (by show 1 ≤ sizeLine; decide), fun t ht => ⟨(by show 1 ≤ 1000; decide), raise_fin (ks := [((i : Nat) : Int)]) upd_same ((kE _ e1).same (s1.trans ((sN.trans sC).trans (same_new ht _))))⟩⟩
      · obtain ⟨v2, v3, rfl, sN, ok⟩ := z
        refine kN ?_ N (s1.trans sN)
        rw [wA]
        exact first_none fun j d q => ok j d (by rw [lx]; exact (List.getElem?_eq_some_iff.mp q).1) q
    · refine iteN (fun _ => ?_) (fun z => absurd z ?_)
      · exact ⟨Nat.zero_le _, fun t ht => ⟨(by show 1 ≤ 1000; decide), raise_fin (ks := []) upd_same ((kE _ (by unfold wrongP; rw [if_pos sb, if_neg e])).same (s1.trans (same_new ht _)))⟩⟩
      · intro q
        have := V.int.inj q
        omega
/-- what an account costs at prices -/
def costI (as ps : List Int) : Int := (List.zipWith (fun a p => (if a < 0 then -a else a) * p) as ps).sum
def spCostOf : Sp := fun vs H Q _ => ∃ (kk : Bool) (a b : Addr) (as ps : List Int), vs = [.ref a, .ref b] ∧ H a = some (.tup (as.map V.int)) ∧ TrK kk H b (ps.map V.int) ∧ as.length = ps.length ∧ as.length ≤ 100 ∧ (∀ z ∈ as, -(10 ^ 40) < z ∧ z < 10 ^ 40) ∧ (∀ z ∈ ps, -(10 ^ 40) < z ∧ z < 10 ^ 40) ∧ ∀ H', Same H H' → Q (.int (costI as ps)) H'
theorem ok_cost_of (T : Tx K mg) : FnOk P w K mg base CX0 1 T.a_cost_of T.fd_cost_of ["account", "prices"] spCostOf := by
  refine T.F_cost_of.ok sc_cost_of (fun vs H Q E h => ?_) (fun cdv A outer st H vs Q E hr h => ?_)
  · obtain ⟨kk, a, b, as, ps, rfl, _⟩ := h
    rfl
  obtain ⟨kk, a, b, as, ps, rfl, ha, hb, hl, l100, sa, sp, k⟩ := h
  refine ⟨_, ((pss_one (ps_ret (pe_callB (cr_sum rfl) (by rfl) T.n_sum (by decide +kernel) (pa_cons (pe_lc (own := [("number", 2), ("price", 3)]) (by rfl) sc_cost_of.nd (pi_zipM (by rfl) T.n_zip (pa_cons (pv 0) (pa_cons (pv 1) pa_nil))) (blkOk_by (own := [("number", 2), ("price", 3)]) (N := ["account", "prices", "number", "price"]) (sc := defScope s_cost_of) (by decide +kernel)) (fun _ _ _ _ _ => show PG _ _ (gTup K 2 (gCons (gName 2) (gCons (gName 3) gNil))) from (pg_tup rfl (pgs_cons (pg_name (i := 2) sc_cost_of.nd rfl (Or.inl rfl)) (pgs_cons (pg_name (i := 3) sc_cost_of.nd rfl (Or.inl rfl)) pgs_nil)))) (fun _ _ _ _ _ => pts_nil) (fun _ _ _ _ _ => (pe_op op_mulW (pe_callB call_abs (by rfl) T.n_abs (by decide +kernel) (pa_cons (pv 2) pa_nil)) (pv 3)))) pa_nil))))), ?_⟩
  have hl' : (as.map V.int).length = (ps.map V.int).length := by rw [List.length_map, List.length_map]; exact hl
  have lz : (List.zipWith (fun a p : Int => (if a < 0 then -a else a) * p) as ps).length = as.length := by rw [List.length_zipWith]; omega
  refine ⟨_, rfl, _, rfl, true, kk, a, b, as.map V.int, ps.map V.int, rfl, SqT.of ha, hb.sq, fun D hD => ?_⟩
  refine lc_it (walk_zipM hl') (Lc H D ((List.zipWith (fun a p : Int => (if a < 0 then -a else a) * p) as ps).map V.int)) (Lc.zero hD) (fun j M _ z => ⟨SqT.of (z.1 _ _ ha), sq_same z.1 hb.sq⟩) (fun j y M M' hj z hy => ?_) (fun M z => ?_)
  · obtain ⟨C, u, v, rfl, nC, rfl, eu, ev⟩ := hy
    obtain ⟨g, hg, rfl⟩ := getM eu
    obtain ⟨e, he, rfl⟩ := getM ev
    have z' := z.same (same_new nC (.tup [.int g, .int e]))
    refine ⟨C, _, rfl, SqT.of upd_same, rfl, _, _, rfl, _, _, rfl, rfl, rfl, ?_⟩
    have bg := sa g (List.mem_of_getElem? hg)
    have be := sp e (List.mem_of_getElem? he)
    refine ⟨_, rfl, g, rfl, _, rfl, _, _, rfl, rfl, ⟨?_, be⟩, ?_⟩
    · split <;> omega
    · exact Lc.lay hD z' (mapM (by rw [List.getElem?_zipWith, hg, he])) (by rw [List.length_map, lz]; omega)
  · obtain ⟨sM, eM⟩ := z.all (by rw [List.length_map, List.length_map, lz])
    exact ⟨D, _, rfl, SqL.of eM, k M sM⟩
end
end My

namespace My
open PySem PySem.Spec PyProof.Rows L2
def intD (d : PyData) : Int := match d with
  | .int i => i
  | _ => 0
def intsD (d : PyData) : List Int := (itemsD d).map intD
theorem first_all {f : PyData → Bool} : ∀ {ds : List PyData} {k : Nat}, firstN f k ds = none → ∀ d ∈ ds, f d = true
  | [], _, _, _, h => nomatch h
  | d :: ds, k, h, d', m => by
    unfold firstN at h
    cases b : f d with
    | false => rw [b] at h; cases h
    | true =>
      rw [b] at h
      rcases List.mem_cons.mp m with rfl | m
      · exact b
      · exact first_all (k := k + 1) h d' m
theorem ints_of {H : Hp} : ∀ {xs : List V} {ds : List PyData}, DqAll H xs ds → (∀ d ∈ ds, isIntD d = true) → xs = (ds.map intD).map V.int
  | _, _, .nil, _ => rfl
  | _, _, .cons (d := d) h hs, al => by
    have e := al d List.mem_cons_self
    have t := ints_of hs fun d' m => al d' (List.mem_cons_of_mem _ m)
    cases h with
    | int i => rw [t]; rfl
    | _ => cases e
theorem num_int {d : PyData} (h : isNumD d = true) : isIntD d = true := by
  cases d with
  | int _ => rfl
  | _ => cases h
/-- the ints among the items are of a size that can be multiplied -/
def BigD (d : PyData) : Prop := ∀ x ∈ itemsD d, -(10 ^ 40) < intD x ∧ intD x < 10 ^ 40
def spCost (C Ca Cp : Addr) : Sp := fun vs H Q E => ∃ (x : Addr) (gs : List Str) (bs : List Br) (va vp : V) (da dp : PyData), vs = [.ref x, va, vp] ∧ BookH C H x gs bs ∧ bs.length ≤ 100 ∧ Vw H va da ∧ Vw H vp dp ∧ BigD da ∧ BigD dp ∧
  (∀ ks, wrongA bs.length da = some ks → Path Ca H ks E) ∧ (wrongA bs.length da = none → ∀ ks, wrongP bs.length dp = some ks → Path Cp H ks E) ∧
  (wrongA bs.length da = none → wrongP bs.length dp = none → ∀ H', Same H H' → Q (.int (costI (intsD da) (intsD dp))) H')
theorem wrongA_ok {n : Nat} {d : PyData} (h : wrongA n d = none) : ∃ ds, d = .tuple ds ∧ ds.length = n ∧ ∀ x ∈ ds, isIntD x = true := by
  cases d with
  | tuple ds =>
    have h : (if ds.length = n then firstN isIntD 0 ds else some []) = none := h
    by_cases e : ds.length = n
    · rw [if_pos e] at h
      exact ⟨ds, rfl, e, first_all h⟩
    · rw [if_neg e] at h
      cases h
  | _ => cases h
theorem wrongP_ok {n : Nat} {d : PyData} (h : wrongP n d = none) : seqB d = true ∧ (itemsD d).length = n ∧ ∀ x ∈ itemsD d, isNumD x = true := by
  unfold wrongP at h
  cases s : seqB d with
  | false => rw [s] at h; cases h
  | true =>
    rw [s, if_pos rfl] at h
    by_cases e : (itemsD d).length = n
    · rw [if_pos e] at h
      exact ⟨rfl, e, first_all h⟩
    · rw [if_neg e] at h
      cases h
theorem map_big {d : PyData} (h : BigD d) : ∀ z ∈ intsD d, -(10 ^ 40) < z ∧ z < 10 ^ 40 := fun z hz => by
  obtain ⟨x, hx, rfl⟩ := List.mem_map.mp hz
  exact h x hx
def spCancels (C : Addr) : Sp := fun vs H Q _ => ∃ (x a b : Addr) (gs : List Str) (bs : List Br) (as os : List Int), vs = [.ref x, .ref a, .ref b] ∧ BookH C H x gs bs ∧ bs.length ≤ 100 ∧ H a = some (.tup (as.map V.int)) ∧ H b = some (.tup (os.map V.int)) ∧ as.length = bs.length ∧ os.length = bs.length ∧
  ∀ (D : Addr) (ns : List Str) (H' : Hp), Same H H' → H' D = some (.lst (ns.map V.str)) → (ns = [] → ∀ (i : Nat) (u v : Int), as[i]? = some u → os[i]? = some v → ¬ (u < 0 ∧ 0 < v) ∧ ¬ (v < 0 ∧ 0 < u)) → ns.length ≤ bs.length → (∀ n ∈ ns, n ∈ bs.map (·.1)) → Q (.ref D) H'
theorem dqt {H : Hp} {a : Addr} {ns : List Int} (h : H a = some (.tup (ns.map V.int))) : Dq H (.ref a) (.tuple (ns.map PyData.int)) := .tup h (dq_ints ns)
theorem wrongA_ints {n : Nat} {ns : List Int} (h : ns.length = n) : wrongA n (.tuple (ns.map PyData.int)) = none := by
  show (if (ns.map PyData.int).length = n then firstN isIntD 0 (ns.map PyData.int) else some []) = none
  rw [List.length_map, if_pos h]
  refine first_none fun j d q => ?_
  rw [List.getElem?_map] at q
  cases e : ns[j]? with
  | none => rw [e] at q; cases q
  | some u => rw [e] at q; cases q; rfl
section
variable {P : Program} {w : World} {K : PySem.W.Frag} {mg : Str → Option Value} {base : Heap}
theorem ok_cost (T : Tx K mg) : FnOk P w K mg base (L2.CX P w) 5 T.a_cost T.fd_cost ["book", "account", "prices"] (spCost T.C_Book T.e_BadAccount.C T.e_BadPrices.C) := by
  refine T.F_cost.okX sc_cost (fun vs H Q E h => ?_) (fun cdv A outer st H vs Q E hr h => ?_)
  · obtain ⟨x, gs, bs, va, vp, da, dp, rfl, _⟩ := h
    rfl
  obtain ⟨x, gs, bs, va, vp, da, dp, rfl, hB, bl, hva, hvp, ba, bp, kA, kP, k⟩ := h
  have G_check_account : FnOk P w K mg base (L2.CX P w) 4 T.a_check_account T.fd_check_account ["book", "account"] (spCheck wrongA T.C_Book T.e_BadAccount.C) := ok_check_account T
  have hr_check_account : Room 4 _ := hr
  have G_check_prices : FnOk P w K mg base (L2.CX P w) 4 T.a_check_prices T.fd_check_prices ["book", "prices"] (spCheck wrongP T.C_Book T.e_BadPrices.C) := ok_check_prices T
  have hr_check_prices : Room 4 _ := hr
  have G_cost_of : FnOk P w K mg base CX0 1 T.a_cost_of T.fd_cost_of ["account", "prices"] spCostOf := ok_cost_of T
  have hr_cost_of : Room 1 _ := hr.mono (by omega)
  refine ⟨_, ((pss_cons (ps_expr (pe_call G_check_account hr_check_account rfl T.m_check_account T.F_check_account.kp T.b_check_account .nil (passes_call (takes_of rfl rfl rfl rfl) (fun _ _ _ _ z => z)) (pa_cons (pv 0) (pa_cons (pv 1) pa_nil))))
      (pss_cons (ps_expr (pe_call G_check_prices hr_check_prices rfl T.m_check_prices T.F_check_prices.kp T.b_check_prices .nil (passes_call (takes_of rfl rfl rfl rfl) (fun _ _ _ _ z => z)) (pa_cons (pv 0) (pa_cons (pv 2) pa_nil))))
      (pss_one (ps_ret (pe_call G_cost_of hr_cost_of rfl T.m_cost_of T.F_cost_of.kp T.b_cost_of .nil pass0 (pa_cons (pv 1) (pa_cons (pv 2) pa_nil)))))))), ?_⟩
  refine ⟨_, rfl, _, rfl, x, gs, bs, va, da, rfl, hB, bl, hva, fun eA H1 s1 => ?_, kA⟩
  refine ⟨_, rfl, _, rfl, x, gs, bs, vp, dp, rfl, hB.same s1, bl, hvp.same s1, fun eP H2 s2 => ?_, fun ks e => (kP eA ks e).same s1⟩
  have s12 := s1.trans s2
  obtain ⟨ds, rfl, ld, alA⟩ := wrongA_ok eA
  obtain ⟨sp, lp, alP⟩ := wrongP_ok eP
  obtain ⟨a, xs, rfl, ha, hs⟩ := hva.tup
  have hvp2 := hvp.same s12
  have ex := ints_of hs alA
  subst ex
  obtain ⟨kk, b, ps, rfl, hb, eb⟩ := hvp2.seq sp
  have ep := ints_of eb fun x m => num_int (alP x m)
  subst ep
  refine ⟨_, rfl, _, rfl, kk, a, b, _, _, rfl, s12 _ _ ha, hb, by rw [List.length_map, List.length_map, ld, lp], by rw [List.length_map]; omega, map_big ba, map_big bp, fun H3 s3 => ?_⟩
  exact k eA eP H3 (s12.trans s3)
theorem ok_cancels (T : Tx K mg) : FnOk P w K mg base (L2.CX P w) 5 T.a_cancels_at T.fd_cancels_at ["book", "one", "other"] (spCancels T.C_Book) := by
  refine T.F_cancels_at.okX sc_cancels_at (fun vs H Q E h => ?_) (fun cdv A outer st H vs Q E hr h => ?_)
  · obtain ⟨x, a, b, gs, bs, as, os, rfl, _⟩ := h
    rfl
  obtain ⟨x, a, b, gs, bs, as, os, rfl, hB, bl, ha, hb, la, lo, k⟩ := h
  have G_check_account : FnOk P w K mg base (L2.CX P w) 4 T.a_check_account T.fd_check_account ["book", "account"] (spCheck wrongA T.C_Book T.e_BadAccount.C) := ok_check_account T
  have hr_check_account : Room 4 _ := hr
  have G_Book_names : FnOk P w K mg base CX0 1 T.a_Book_names T.fd_Book_names ["self"] (spNames34 T.C_Book) := ok_Book_names T
  have hr_Book_names : Room 1 _ := hr.mono (by omega)
  refine ⟨_, ((pss_cons (ps_expr (pe_call G_check_account hr_check_account rfl T.m_check_account T.F_check_account.kp T.b_check_account .nil (passes_call (takes_of rfl rfl rfl rfl) (fun _ _ _ _ z => z)) (pa_cons (pv 0) (pa_cons (pv 1) pa_nil))))
      (pss_cons (ps_expr (pe_call G_check_account hr_check_account rfl T.m_check_account T.F_check_account.kp T.b_check_account .nil (passes_call (takes_of rfl rfl rfl rfl) (fun _ _ _ _ z => z)) (pa_cons (pv 0) (pa_cons (pv 2) pa_nil))))
      (pss_cons (ps_set (i := 3) sc_cancels_at.nd rfl (Or.inl rfl) (pe_meth0 (pv 0) T.cl_Book T.me_Book_names G_Book_names hr_Book_names T.b_Book_names .nil pass0))
      (pss_one (ps_ret (pe_lc (own := [("k", 4), ("name", 5)]) (by rfl) sc_cancels_at.nd (pi_enumM (by rfl) T.n_enumerate (pa_cons (pv 3) pa_nil)) (blkOk_by (own := [("k", 4), ("name", 5)]) (N := ["book", "one", "other", "names", "k", "name"]) (sc := defScope s_cancels_at) (by decide +kernel)) (fun _ _ _ _ _ => show PG _ _ (gTup K 2 (gCons (gName 4) (gCons (gName 5) gNil))) from (pg_tup rfl (pgs_cons (pg_name (i := 4) sc_cancels_at.nd rfl (Or.inl rfl)) (pgs_cons (pg_name (i := 5) sc_cancels_at.nd rfl (Or.inl rfl)) pgs_nil)))) (fun _ _ _ _ _ => (pts_one (PW.pt (pw_or (pt_chain op_lt op_lt (pe_ix (show IxR _ (rIxT K) from ix_tup) (pv 1) (pv 4) (fun _ _ => rfl)) pe_int (pe_ix (show IxR _ (rIxT K) from ix_tup) (pv 2) (pv 4) (fun _ _ => rfl))) (pw_or1 (pt_chain op_lt op_lt (pe_ix (show IxR _ (rIxT K) from ix_tup) (pv 2) (pv 4) (fun _ _ => rfl)) pe_int (pe_ix (show IxR _ (rIxT K) from ix_tup) (pv 1) (pv 4) (fun _ _ => rfl)))))))) (fun _ _ _ _ _ => (pv 5))))))))), ?_⟩
  refine ⟨_, rfl, _, rfl, x, gs, bs, .ref a, _, rfl, hB, bl, .inl (dqt ha), fun eA H1 s1 => ?_, fun ks e => ?_⟩
  rotate_left
  · rw [wrongA_ints la] at e; cases e
  refine ⟨_, rfl, _, rfl, x, gs, bs, .ref b, _, rfl, hB.same s1, bl, .inl (dqt (s1 _ _ hb)), fun eB H2 s2 => ?_, fun ks e => ?_⟩
  rotate_left
  · rw [wrongA_ints lo] at e; cases e
  have s12 := s1.trans s2
  obtain ⟨dx, tg, tb, dg, db, ps, h1, h2, h3, h4, h5, h6⟩ := BookH.same s12 hB
  refine ⟨_, rfl, x, dx, _, rfl, h1, rfl, x, dx, tb, _, ps, bs, rfl, h1, rfl, h3, h4, bl, fun D0 M s3 nD0 eD0 => ?_⟩
  have ha3 := s3 _ _ (s12 _ _ ha)
  have hb3 := s3 _ _ (s12 _ _ hb)
  refine ⟨_, rfl, false, D0, _, rfl, SqL.of eD0, fun D hD => ?_⟩
  refine lc_it walk_enumM (fun i N => Same M N ∧ ∃ ns : List Str, N D = some (.lst (ns.map V.str)) ∧ ns.length ≤ i ∧ (∀ n ∈ ns, n ∈ bs.map (·.1)) ∧ (ns = [] → ∀ (j : Nat) (u v : Int), j < i → as[j]? = some u → os[j]? = some v → ¬ (u < 0 ∧ 0 < v) ∧ ¬ (v < 0 ∧ 0 < u))) ⟨same_new hD _, [], upd_same, Nat.le_refl _, (fun _ h => nomatch h), fun _ j _ _ h => absurd h (Nat.not_lt_zero _)⟩ (fun i N _ z => SqL.of (z.1 _ _ eD0)) (fun i y N N' hi z yy => ?_) (fun N z => ?_)
  · obtain ⟨sN, ns, eD, ln, inB, ok⟩ := z
    obtain ⟨C, u, v, rfl, nC, rfl, eu, ev⟩ := yy
    cases eu
    obtain ⟨nm, hnm, rfl⟩ := getM ev
    have il : i < bs.length := by
      have := (List.getElem?_eq_some_iff.mp hnm).1
      rw [List.length_map] at this
      exact this
    obtain ⟨u, hu⟩ : ∃ u, as[i]? = some u := ⟨_, List.getElem?_eq_getElem (by omega)⟩
    obtain ⟨v, hv⟩ : ∃ v, os[i]? = some v := ⟨_, List.getElem?_eq_getElem (by omega)⟩
    have inS : ∀ n ∈ ns ++ [nm], n ∈ bs.map (·.1) := fun n hn => by
      rcases List.mem_append.mp hn with h | h
      · exact inB n h
      · rw [List.mem_singleton.mp h]; exact List.mem_of_getElem? hnm
    have sC := same_new nC (.tup [.int (i : Nat), .str nm])
    have ha4 := sC _ _ (sN _ _ ha3)
    have hb4 := sC _ _ (sN _ _ hb3)
    refine ⟨C, _, rfl, SqT.of upd_same, rfl, _, _, rfl, _, _, rfl, rfl, rfl, ?_⟩
    have nx : ¬ (u < 0 ∧ 0 < v) ∧ ¬ (v < 0 ∧ 0 < u) → ns = [] → ∀ (j : Nat) (u v : Int), j < i + 1 → as[j]? = some u → os[j]? = some v → ¬ (u < 0 ∧ 0 < v) ∧ ¬ (v < 0 ∧ 0 < u) := fun n z j u' v' hj e1 e2 => by
      rcases Nat.lt_succ_iff_lt_or_eq.mp hj with h | h
      · exact ok z j u' v' h e1 e2
      · subst h
        rw [hu] at e1; rw [hv] at e2
        cases e1; cases e2
        exact n
    have snd : ∀ (R : Bool → Hp → Prop), (¬ (u < 0 ∧ 0 < v)) → (v < 0 ∧ 0 < u → R true (L2.upd N C (.tup [.int (i : Nat), .str nm]))) → (¬ (v < 0 ∧ 0 < u) → R false (L2.upd N C (.tup [.int (i : Nat), .str nm]))) →
        tTest (tChain (rI0 fun i j => V.bl (decide (i < j))) (rI0 fun i j => V.bl (decide (i < j))) (tOp (rIxT K) (tVar 2) (tVar 4)) (tC (V.int 0)) (tOp (rIxT K) (tVar 1) (tVar 4))) [some (.ref x), some (.ref a), some (.ref b), some (.ref D0), some (.int (i : Nat)), some (.str nm)] (L2.upd N C (.tup [.int (i : Nat), .str nm])) R := fun R _ r1 r2 => by
      refine ⟨_, rfl, _, rfl, b, _, _, _, rfl, rfl, SqT.of hb4, atI_nat (mapM hv), _, _, rfl, rfl, _, rfl, iteD (fun p1 => ⟨_, rfl, _, rfl, a, _, _, _, rfl, rfl, SqT.of ha4, atI_nat (mapM hu), _, _, rfl, rfl, _, rfl, ?_⟩) (fun p1 => ⟨_, rfl, r2 fun z => p1 z.1⟩)⟩
      by_cases p2 : 0 < u
      · rw [decide_eq_true p2]; exact r1 ⟨p1, p2⟩
      · rw [decide_eq_false p2]; exact r2 fun z => p2 z.2
    refine ⟨_, rfl, _, rfl, a, _, _, _, rfl, rfl, SqT.of ha4, atI_nat (mapM hu), _, _, rfl, rfl, _, rfl, iteD (fun p1 => ⟨_, rfl, _, rfl, b, _, _, _, rfl, rfl, SqT.of hb4, atI_nat (mapM hv), _, _, rfl, rfl, _, rfl, iteD (fun p2 => ?_) (fun p2 => ?_)⟩) (fun p1 => ⟨_, rfl, iteF ?_⟩)⟩
    · exact iteT ⟨_, rfl, _, sC _ _ eD, (by rw [List.length_map]; exact small1000 (by omega)), same_put hD (sN.trans sC), ns ++ [nm], by rw [upd_same, List.map_append]; rfl, by rw [List.length_append]; exact Nat.succ_le_succ ln, inS, fun z => absurd z (by simp)⟩
    · exact snd _ (fun z => p2 z.2) (fun _ => iteT ⟨_, rfl, _, sC _ _ eD, (by rw [List.length_map]; exact small1000 (by omega)), same_put hD (sN.trans sC), ns ++ [nm], by rw [upd_same, List.map_append]; rfl, by rw [List.length_append]; exact Nat.succ_le_succ ln, inS, fun z => absurd z (by simp)⟩) (fun q => iteF ⟨sN.trans sC, ns, sC _ _ eD, Nat.le_succ_of_le ln, inB, fun z j u' v' hj e1 e2 => nx ⟨fun z => p2 z.2, q⟩ z j u' v' hj e1 e2⟩)
    · exact snd _ (fun z => p1 z.1) (fun _ => iteT ⟨_, rfl, _, sC _ _ eD, (by rw [List.length_map]; exact small1000 (by omega)), same_put hD (sN.trans sC), ns ++ [nm], by rw [upd_same, List.map_append]; rfl, by rw [List.length_append]; exact Nat.succ_le_succ ln, inS, fun z => absurd z (by simp)⟩) (fun q => iteF ⟨sN.trans sC, ns, sC _ _ eD, Nat.le_succ_of_le ln, inB, fun z j u' v' hj e1 e2 => nx ⟨fun z => p1 z.1, q⟩ z j u' v' hj e1 e2⟩)
  · obtain ⟨sN, ns, eD, ln, inB, ok⟩ := z
    refine k D ns N (s12.trans (s3.trans sN)) eD (fun e j u v h1 h2 => ok e j u v ?_ h1 h2) ?_ inB
    · rw [List.length_map, List.length_map]
      have := (List.getElem?_eq_some_iff.mp h1).1
      omega
    · rw [List.length_map, List.length_map] at ln; exact ln
end
end My

namespace My
open PySem PySem.Spec PyProof.Rows L2
/-- the places of all items that are not of a kind -/
def badN (f : PyData → Bool) : Nat → List PyData → List Int
  | _, [] => []
  | i, d :: ds => (if f d = true then [] else [(i : Int)]) ++ badN f (i + 1) ds
theorem bad_first (f : PyData → Bool) : ∀ (k : Nat) (ds : List PyData), firstN f k ds = (badN f k ds).head?.map fun i => [i]
  | _, [] => rfl
  | k, d :: ds => by
    unfold firstN badN
    cases f d with
    | true => exact bad_first f (k + 1) ds
    | false => rfl
theorem bad_next {f : PyData → Bool} : ∀ {ds : List PyData} {k i : Nat} {d : PyData}, ds[i]? = some d → badN f k (ds.take (i + 1)) = badN f k (ds.take i) ++ (if f d = true then [] else [((k + i : Nat) : Int)])
  | d :: ds, k, 0, _, e => by
    cases e
    show (if f d = true then [] else [(k : Int)]) ++ [] = [] ++ _
    rw [List.append_nil]
    rfl
  | d :: ds, k, i + 1, d', e => by
    show (if f d = true then [] else [(k : Int)]) ++ badN f (k + 1) (ds.take (i + 1)) = ((if f d = true then [] else [(k : Int)]) ++ badN f (k + 1) (ds.take i)) ++ _
    rw [bad_next (ds := ds) (k := k + 1) (i := i) e, List.append_assoc, show k + 1 + i = k + (i + 1) by omega]
theorem bad_len (f : PyData → Bool) : ∀ (k : Nat) (ds : List PyData), (badN f k ds).length ≤ ds.length
  | _, [] => Nat.le_refl _
  | k, d :: ds => by
    have := bad_len f (k + 1) ds
    unfold badN
    rw [List.length_append, List.length_cons]
    split
    · show 0 + _ ≤ _; omega
    · show 1 + _ ≤ _; omega
/-- a path in a list, or an empty list -/
def OptP (H : Hp) (r : Addr) (o : Option (List Int)) : Prop := match o with
  | none => H r = some (.lst [])
  | some ks => ∃ t : Addr, H r = some (.lst [.ref t]) ∧ H t = some (.tup (ks.map V.int))
def spWrA (C : Addr) : Sp := fun vs H Q _ => ∃ (wd g l x : Addr) (ps : List Addr) (ex : List (Key × V)) (gs : List Str) (bs : List Br) (v : V) (d : PyData), vs = [.ref wd, v] ∧ WorldX C H wd g l x ps ex gs bs ∧ Vw H v d ∧
  ∀ (r : Addr) (H' : Hp), Same H H' → OptP H' r (wrongA bs.length d) → Q (.ref r) H'
section
variable {P : Program} {w : World} {K : PySem.W.Frag} {mg : Str → Option Value} {base : Heap}
theorem ok_wrong_account (T : Tx K mg) : FnOk P w K mg base CX0 2 T.a_law_wrong_account T.fd_law_wrong_account ["_law_world", "_law_value"] (spWrA T.C_Book) := by
  refine T.F_law_wrong_account.ok sc_law_wrong_account (fun vs H Q E h => ?_) (fun cdv A outer st H vs Q E hr h => ?_)
  · obtain ⟨wd, g, l, x, ps, ex, gs, bs, v, d, rfl, _⟩ := h
    rfl
  obtain ⟨wd, g, l, x, ps, ex, gs, bs, v, d, rfl, W, hv, k⟩ := h
  have hu := hu_of hr
  have lp : ps.length = bs.length := W.hb.1
  have bl := W.G.bl
  have gB : ∀ {N : Hp}, Same H N → DGet N wd (.str "barters") (some (.ref l)) := fun {N} e => by rw [← w_barters g l x ex]; exact DGet.k (k := Sum.inr "barters") (e _ _ W.hw)
  have S0 : Same H H := fun _ _ e => e
  have none_ : wrongA bs.length d = some [] → tRet (tLst (tCons (tTup tNil) tNil)) { nx := fun _ H' => Q .non H', rt := Q } [some (.ref wd), some v, none, none] H := fun e =>
    ⟨Nat.zero_le _, fun t ht => ⟨(by show 1 ≤ sizeLine; decide), fun r hr' => k r _ ((same_new ht (.tup [])).trans (same_new hr' _)) (by rw [e]; exact ⟨t, upd_same, same_new hr' _ _ _ upd_same⟩)⟩⟩
  refine ⟨_, ((pss_cons (ps_if (PW.pt (pw_or (pt_not (pt_val (pe_callB (show CallR _ (.builtin "isinstance") (rIsi K) from call_isi) (by rfl) T.n_isinstance (by decide +kernel) (pa_cons (pv 1) (pa_cons (pe_bltn (v := .ty "tuple") (by rfl) T.n_tuple (by decide +kernel) rfl) pa_nil))))) (pw_or1 (pt_cmpR op_ne (pe_callB call_len_seq (by rfl) T.n_len (by decide +kernel) (pa_cons (pv 1) pa_nil)) (pe_callB call_len_seq (by rfl) T.n_len (by decide +kernel) (pa_cons (pe_dget hu (pv 0) pe_str (fun _ _ => rfl)) pa_nil)) (nomark _)))))
        (pss_one (ps_ret (pe_lst (pa_cons (pe_tup pa_nil) pa_nil))))
        pss_nil)
      (pss_cons (ps_setLc (i := 2) (own := [("_law_k", 3)]) (by rfl) sc_law_wrong_account.nd rfl rfl (sw_true rfl rfl rfl (by decide +kernel)) (pi_range1 rfl T.n_range (pa_cons (pe_callB call_len_seq (by rfl) T.n_len (by decide +kernel) (pa_cons (pv 1) pa_nil)) pa_nil)) (blkOk_by (own := [("_law_k", 3)]) (N := ["_law_world", "_law_value", "_law_wrong", "_law_k"]) (sc := defScope s_law_wrong_account) (by decide +kernel)) (fun _ _ _ _ _ => pg_name (i := 3) sc_law_wrong_account.nd rfl (Or.inl rfl)) (fun _ _ _ _ _ => (pts_one (PW.pt (pw_or (pt_val (pe_callB (show CallR _ (.builtin "isinstance") (rIsi K) from call_isi) (by rfl) T.n_isinstance (by decide +kernel) (pa_cons (pe_ix (show IxR _ (rIxT K) from ix_tup) (pv 1) (pv 3) (fun _ _ => rfl)) (pa_cons (pe_bltn (v := .ty "bool") (by rfl) T.n_bool (by decide +kernel) rfl) pa_nil)))) (pw_or1 (pt_not (pt_val (pe_callB (show CallR _ (.builtin "isinstance") (rIsi K) from call_isi) (by rfl) T.n_isinstance (by decide +kernel) (pa_cons (pe_ix (show IxR _ (rIxT K) from ix_tup) (pv 1) (pv 3) (fun _ _ => rfl)) (pa_cons (pe_bltn (v := .ty "int") (by rfl) T.n_int (by decide +kernel) rfl) pa_nil)))))))))) (fun _ _ _ _ _ => (pv 3)))
      (pss_one (ps_ret (pe_lc (own := [("_law_k", 3)]) (by rfl) sc_law_wrong_account.nd (pi_list (pe_slice sl_list (pv 2) po_none (po_some pe_int))) (blkOk_by (own := [("_law_k", 3)]) (N := ["_law_world", "_law_value", "_law_wrong", "_law_k"]) (sc := defScope s_law_wrong_account) (by decide +kernel)) (fun _ _ _ _ _ => pg_name (i := 3) sc_law_wrong_account.nd rfl (Or.inl rfl)) (fun _ _ _ _ _ => pts_nil) (fun _ _ _ _ _ => (pe_tup (pa_cons (pv 3) pa_nil))))))))), ?_⟩
  refine ⟨_, rfl, v, .ty "tuple", .type (tyD d), .type "tuple", _, rfl, .ty _, hv.ty, is_tup d, ?_⟩
  cases d with
  | tuple ds =>
    obtain ⟨a, xs, rfl, ha, hs⟩ := hv.tup
    refine ⟨_, rfl, iteF ?_⟩
    refine ⟨_, rfl, a, xs, rfl, .inr (SqT.of ha), _, rfl, wd, _, rfl, gB S0, l, _, rfl, .inl (SqL.of W.hl), rfl, _, rfl, ?_⟩
    have lx := hs.length
    rw [List.length_map]
    by_cases e : ds.length = bs.length
    · refine iteN (fun z => absurd (by rw [lx, e, lp]) z) (fun _ => ?_)
      have wA : wrongA bs.length (.tuple ds) = firstN isIntD 0 ds := if_pos e
      refine ⟨_, rfl, a, xs, rfl, .inr (SqT.of ha), _, rfl, by omega, by omega, fun D hD => ?_⟩
      rw [Int.toNat_natCast]
      refine lc_range (lo := 0) (n := xs.length) (fun i N => Same H N ∧ N D = some (.lst ((badN isIntD 0 (ds.take i)).map V.int))) ⟨same_new hD _, by rw [upd_same]; rfl⟩ (fun i N hi z => ?_) (fun N z => ?_)
      · obtain ⟨sN, eD⟩ := z
        obtain ⟨v', ev⟩ : ∃ v', xs[i]? = some v' := ⟨_, List.getElem?_eq_getElem hi⟩
        obtain ⟨d', ed, dq⟩ := hs.at_ ev
        have dq := dq.same sN
        have sm : (((badN isIntD 0 (ds.take i)).map V.int)).length < sizeLine := by
          have := bad_len isIntD 0 (ds.take i)
          rw [List.length_take] at this
          rw [List.length_map]
          exact small1000 (by omega)
        have put : isIntD d' = false → (L2.upd N D (.lst ((badN isIntD 0 (ds.take i)).map V.int ++ [V.int (0 + (i : Int))]))) D = some (.lst ((badN isIntD 0 (ds.take (i + 1))).map V.int)) := fun b => by
          rw [upd_same, bad_next ed, b, if_neg Bool.false_ne_true, List.map_append]
          show _ = some (HO.lst (_ ++ [V.int ((0 + i : Nat) : Int)]))
          rw [show ((0 + i : Nat) : Int) = 0 + (i : Int) by omega]
        refine ⟨rfl, ?_⟩
        refine ⟨_, rfl, _, rfl, a, _, _, _, rfl, rfl, SqT.of (sN _ _ ha), (by rw [Int.zero_add]; exact atI_nat ev), v', .ty "bool", .type (tyD d'), .type "bool", _, rfl, .ty _, dq.ty, is_bool d', _, rfl, ?_⟩
        have two : ∀ R : Bool → Hp → Prop, R (!(decide (tyD d' = "int") || decide (tyD d' = "bool"))) N → tNot (tB (tCB (rIsi K) (tCons (tOp (rIxT K) (tVar 1) (tVar 3)) (tCons (tC (.ty "int")) tNil)))) [some (.ref wd), some (.ref a), none, some (.int (0 + (i : Int)))] N R := fun R r =>
          ⟨_, rfl, _, rfl, a, _, _, _, rfl, rfl, SqT.of (sN _ _ ha), (by rw [Int.zero_add]; exact atI_nat ev), v', .ty "int", .type (tyD d'), .type "int", _, rfl, .ty _, dq.ty, is_int d', _, rfl, r⟩
        have skip : isIntD d' = true → Same H N ∧ N D = some (.lst ((badN isIntD 0 (ds.take (i + 1))).map V.int)) := fun b => ⟨sN, by rw [bad_next ed, b, if_pos rfl, List.append_nil]; exact eD⟩
        cases d' with
        | int _ => exact iteF (two _ (iteF (skip rfl)))
        | bool _ => exact iteT (iteT ⟨_, rfl, _, eD, sm, same_put hD sN, put rfl⟩)
        | none => exact iteF (two _ (iteT ⟨_, rfl, _, eD, sm, same_put hD sN, put rfl⟩))
        | str _ => exact iteF (two _ (iteT ⟨_, rfl, _, eD, sm, same_put hD sN, put rfl⟩))
        | list _ => exact iteF (two _ (iteT ⟨_, rfl, _, eD, sm, same_put hD sN, put rfl⟩))
        | tuple _ => exact iteF (two _ (iteT ⟨_, rfl, _, eD, sm, same_put hD sN, put rfl⟩))
        | dict _ => exact iteF (two _ (iteT ⟨_, rfl, _, eD, sm, same_put hD sN, put rfl⟩))
      · obtain ⟨sN, eD⟩ := z
        rw [show ds.take xs.length = ds by rw [lx]; exact List.take_length] at eD
        refine ⟨_, rfl, 1, rfl, D, _, rfl, SqL.of eD, fun p hp => ?_⟩
        rw [show cutV ((badN isIntD 0 ds).map V.int) none (some 1) = ((badN isIntD 0 ds).map V.int).take 1 from cutV_lo' _ (j := 1)]
        have sp := same_new hp (.lst (((badN isIntD 0 ds).map V.int).take 1))
        have ep : L2.upd N p (.lst (((badN isIntD 0 ds).map V.int).take 1)) p = some (.lst (((badN isIntD 0 ds).map V.int).take 1)) := upd_same
        generalize L2.upd N p (.lst (((badN isIntD 0 ds).map V.int).take 1)) = M at sp ep ⊢
        refine ⟨p, rfl, ⟨_, SqL.of ep⟩, fun D2 hD2 => ?_⟩
        have sM := sN.trans sp
        have wB := bad_first isIntD 0 ds
        cases hb : badN isIntD 0 ds with
        | nil =>
          rw [hb] at wB ep
          refine lc_list (xs := []) (fun _ N' => Same M N' ∧ N' D2 = some (.lst [])) ⟨same_new hD2 _, upd_same⟩ (fun i N' _ z => SqL.of (z.1 _ _ ep)) (fun i y N' hy z => nomatch hy) (fun N' z => ?_)
          exact k D2 N' (sM.trans z.1) (by rw [wA, wB]; exact z.2)
        | cons b r =>
          rw [hb] at wB ep
          refine lc_list (xs := [V.int b]) (fun i N' => Same M N' ∧ (i = 0 → N' D2 = some (.lst [])) ∧ (i = 1 → ∃ t : Addr, N' D2 = some (.lst [.ref t]) ∧ N' t = some (.tup [.int b]))) ⟨same_new hD2 _, fun _ => upd_same, fun z => nomatch z⟩ (fun i N' _ z => SqL.of (z.1 _ _ ep)) (fun i y N' hy z => ?_) (fun N' z => ?_)
          · have i0 : i = 0 := by
              have := (List.getElem?_eq_some_iff.mp hy).1
              simp only [List.length_cons, List.length_nil] at this
              omega
            subst i0
            cases hy
            obtain ⟨s1, e0, _⟩ := z
            refine ⟨rfl, _, rfl, (by show 1 ≤ sizeLine; decide), fun t ht => ?_⟩
            have st := same_new ht (.tup [.int b])
            exact ⟨[], st _ _ (e0 rfl), small1000 (Nat.zero_le _), same_put hD2 (s1.trans st), (fun z => nomatch z), fun _ => ⟨t, upd_same, by rw [upd_ne (ne_of_none (e0 rfl) ht).symm]; exact upd_same⟩⟩
          · obtain ⟨s1, _, e1⟩ := z
            obtain ⟨t, h1, h2⟩ := e1 rfl
            exact k D2 N' (sM.trans s1) (by rw [wA, wB]; exact ⟨t, h1, h2⟩)
    · refine iteN (fun _ => none_ (if_neg e)) (fun z => absurd z ?_)
      intro q
      have := V.int.inj q
      omega
  | none => exact ⟨_, rfl, iteT (iteT (none_ rfl))⟩
  | bool _ => exact ⟨_, rfl, iteT (iteT (none_ rfl))⟩
  | int _ => exact ⟨_, rfl, iteT (iteT (none_ rfl))⟩
  | str _ => exact ⟨_, rfl, iteT (iteT (none_ rfl))⟩
  | list _ => exact ⟨_, rfl, iteT (iteT (none_ rfl))⟩
  | dict _ => exact ⟨_, rfl, iteT (iteT (none_ rfl))⟩
theorem ixe {H : Hp} {kk : Bool} {b : Addr} {ps : List V} {i : Int} {y : V} {Q : VK} (h : TrK kk H b ps) (e : atI ps i = some y) (q : Q y H) : rIxE K (.ref b) (.int i) H Q := by
  cases kk
  · exact .inl ⟨b, ps, i, y, rfl, rfl, SqL.of h, e, q⟩
  · exact .inr ⟨b, ps, i, y, rfl, rfl, SqT.of h, e, q⟩
/-- what is due for a call of cost -/
def costD (n : Nat) (da dp : PyData) : PyData := match wrongA n da with
  | some ks => .list [.str "account", .tuple (ks.map PyData.int)]
  | none => match wrongP n dp with
    | some ks => .list [.str "prices", .tuple (ks.map PyData.int)]
    | none => .list [.int (costI (intsD da) (intsD dp))]
def spDue (C : Addr) : Sp := fun vs H Q _ => ∃ (wd g l x : Addr) (ps : List Addr) (ex : List (Key × V)) (gs : List Str) (bs : List Br) (va vp : V) (da dp : PyData), vs = [.ref wd, va, vp] ∧ WorldX C H wd g l x ps ex gs bs ∧ Vw H va da ∧ Vw H vp dp ∧ BigD da ∧ BigD dp ∧
  ∀ (r : Addr) (H' : Hp), Same H H' → Dq H' (.ref r) (costD bs.length da dp) → Q (.ref r) H'
theorem dp_ints {H : Hp} : ∀ ks : List Int, DpAll K H (ks.map V.int) (ks.map PyData.int)
  | [] => .nil
  | k :: ks => .cons (.int k) (dp_ints ks)
theorem wrong_short {n : Nat} {d : PyData} {ks : List Int} (h : wrongA n d = some ks) : ks.length ≤ 1 := by
  cases d with
  | tuple ds =>
    have h : (if ds.length = n then firstN isIntD 0 ds else some []) = some ks := h
    by_cases e : ds.length = n
    · rw [if_pos e, bad_first] at h
      cases q : (badN isIntD 0 ds).head? with
      | none => rw [q] at h; cases h
      | some b => rw [q] at h; cases h; exact Nat.le_refl _
    · rw [if_neg e] at h; cases h; exact Nat.zero_le _
  | _ => cases h; exact Nat.zero_le _
theorem ok_due (T : Tx K mg) : FnOk P w K mg base CX0 3 T.a_law_due T.fd_law_due ["_law_world", "_law_account_here", "_law_prices"] (spDue T.C_Book) := by
  refine T.F_law_due.ok sc_law_due (fun vs H Q E h => ?_) (fun cdv A outer st H vs Q E hr h => ?_)
  · obtain ⟨wd, g, l, x, ps, ex, gs, bs, va, vp, da, dp, rfl, _⟩ := h
    rfl
  obtain ⟨wd, g, l, x, ps, ex, gs, bs, va, vp, da, dp, rfl, W, hva, hvp, ba, bp, k⟩ := h
  have G_law_wrong_account : FnOk P w K mg base CX0 2 T.a_law_wrong_account T.fd_law_wrong_account ["_law_world", "_law_value"] (spWrA T.C_Book) := ok_wrong_account T
  have hr_law_wrong_account : Room 2 _ := hr
  refine ⟨_, ((pss_cons (ps_set (i := 3) sc_law_due.nd rfl (Or.inl rfl) (pe_call G_law_wrong_account hr_law_wrong_account rfl T.m_law_wrong_account T.F_law_wrong_account.kp T.b_law_wrong_account .nil pass0 (pa_cons (pv 0) (pa_cons (pv 1) pa_nil))))
      (pss_cons (ps_if (pt_cmpR (op_neD hr.units) (pv 3) (pe_lstN pa_nil) (nomark _))
        (pss_one (ps_ret (pe_lstN (pa_cons pe_str (pa_cons (pe_ix (show IxR _ (rIxL K) from ix_list) (pv 3) pe_int (fun _ _ => rfl)) pa_nil)))))
        pss_nil)
      (pss_cons (ps_if (PW.pt (pw_or (pt_not (pt_val (pe_callB call_isiT (by rfl) T.n_isinstance (by decide +kernel) (pa_cons (pv 2) (pa_cons (pe_tup (pa_cons (pe_bltn (v := .ty "list") (by rfl) T.n_list (by decide +kernel) rfl) (pa_cons (pe_bltn (v := .ty "tuple") (by rfl) T.n_tuple (by decide +kernel) rfl) pa_nil))) pa_nil))))) (pw_or1 (pt_cmpR op_ne (pe_callB call_len_seq (by rfl) T.n_len (by decide +kernel) (pa_cons (pv 2) pa_nil)) (pe_callB call_len_seq (by rfl) T.n_len (by decide +kernel) (pa_cons (pv 1) pa_nil)) (nomark _)))))
        (pss_one (ps_ret (pe_lstN (pa_cons pe_str (pa_cons (pe_tup pa_nil) pa_nil)))))
        pss_nil)
      (pss_cons (ps_for PassesOwn.never rfl (pi_range1 rfl T.n_range (pa_cons (pe_callB call_len_seq (by rfl) T.n_len (by decide +kernel) (pa_cons (pv 2) pa_nil)) pa_nil)) (pg_name (i := 4) sc_law_due.nd rfl (Or.inl rfl))
        (pss_one (ps_if (PW.pt (pw_or (pt_val (pe_callB (show CallR _ (.builtin "isinstance") (rIsi K) from call_isi) (by rfl) T.n_isinstance (by decide +kernel) (pa_cons (pe_ix (show IxR _ (rIxE K) from ix_either) (pv 2) (pv 4) (fun _ _ => rfl)) (pa_cons (pe_bltn (v := .ty "bool") (by rfl) T.n_bool (by decide +kernel) rfl) pa_nil)))) (pw_or (pt_not (pt_val (pe_callB (show CallR _ (.builtin "isinstance") (rIsi K) from call_isi) (by rfl) T.n_isinstance (by decide +kernel) (pa_cons (pe_ix (show IxR _ (rIxE K) from ix_either) (pv 2) (pv 4) (fun _ _ => rfl)) (pa_cons (pe_bltn (v := .ty "int") (by rfl) T.n_int (by decide +kernel) rfl) pa_nil))))) (pw_or1 (pt_cmpR op_lt (pe_ix (show IxR _ (rIxE K) from ix_either) (pv 2) (pv 4) (fun _ _ => rfl)) pe_int (nomark _))))))
        (pss_one (ps_ret (pe_lstN (pa_cons pe_str (pa_cons (pe_tup (pa_cons (pv 4) pa_nil)) pa_nil)))))
        pss_nil)))
      (pss_one (ps_ret (pe_lstN (pa_cons (pe_callB (cr_sum rfl) (by rfl) T.n_sum (by decide +kernel) (pa_cons (pe_lc (own := [("_law_k", 4)]) (by rfl) sc_law_due.nd (pi_range1 rfl T.n_range (pa_cons (pe_callB call_len_seq (by rfl) T.n_len (by decide +kernel) (pa_cons (pv 1) pa_nil)) pa_nil)) (blkOk_by (own := [("_law_k", 4)]) (N := ["_law_world", "_law_account_here", "_law_prices", "_law_wrong", "_law_k"]) (sc := defScope s_law_due) (by decide +kernel)) (fun _ _ _ _ _ => pg_name (i := 4) sc_law_due.nd rfl (Or.inl rfl)) (fun _ _ _ _ _ => pts_nil) (fun _ _ _ _ _ => (pe_op op_mulW (pe_callB call_abs (by rfl) T.n_abs (by decide +kernel) (pa_cons (pe_ix (show IxR _ (rIxT K) from ix_tup) (pv 1) (pv 4) (fun _ _ => rfl)) pa_nil)) (pe_ix (show IxR _ (rIxE K) from ix_either) (pv 2) (pv 4) (fun _ _ => rfl))))) pa_nil)) pa_nil))))))))), ?_⟩
  refine ⟨_, rfl, _, rfl, wd, g, l, x, ps, ex, gs, bs, va, da, rfl, W, hva, fun r H1 s1 o => ?_⟩
  have bl := W.G.bl
  cases eA : wrongA bs.length da with
  | some ks =>
    rw [eA] at o
    obtain ⟨t, h1, h2⟩ := o
    refine ⟨_, rfl, Nat.zero_le _, fun e0 he0 _ => ?_⟩
    have s2 := same_new he0 (.lst [])
    have sh : SeqAt.shaped (.list [.tuple (ks.map PyData.int)]) = true := (LayAll.list (.cons (lay_ints ks).tuple .nil)).shaped (by decide)
    refine ⟨.list [.tuple (ks.map PyData.int)], .list [], .lst (SqL.of (s2 _ _ h1)) (.cons (.tup (SqT.of (s2 _ _ h2)) (dp_ints ks)) .nil), .lst (SqL.of upd_same) .nil, sh, rfl, ?_⟩
    rw [eqv_nil]
    refine ⟨true, rfl, iteT ?_⟩
    refine ⟨_, rfl, r, _, 0, _, rfl, rfl, SqL.of (s2 _ _ h1), rfl, (by show 2 ≤ sizeLine; decide), fun R hR bR => ?_⟩
    have s3 := same_new hR (.lst [.str "account", .ref t])
    refine k R _ (s1.trans (s2.trans s3)) ?_
    have e : costD bs.length da dp = .list [.str "account", .tuple (ks.map PyData.int)] := by unfold costD; rw [eA]
    rw [e]
    exact .lst upd_same bR (.cons (.str "account") (.cons (.tup (s3 _ _ (s2 _ _ h2)) (dq_ints ks)) .nil))
  | none =>
    rw [eA] at o
    have h1 : H1 r = some (.lst []) := o
    obtain ⟨ds, rfl, ld, alA⟩ := wrongA_ok eA
    obtain ⟨a, xs, rfl, ha, hs⟩ := hva.tup
    have exs := ints_of hs alA
    subst exs
    refine ⟨_, rfl, Nat.zero_le _, fun e0 he0 _ => ?_⟩
    have s2 := same_new he0 (.lst [])
    refine ⟨.list [], .list [], .lst (SqL.of (s2 _ _ h1)) .nil, .lst (SqL.of upd_same) .nil, rfl, rfl, ?_⟩
    rw [eqv_nil]
    refine ⟨false, rfl, iteF ?_⟩
    have eD : ∀ o : Option (List Int), wrongP bs.length dp = o → costD bs.length (.tuple ds) dp = (match o with
      | some ks => .list [.str "prices", .tuple (ks.map PyData.int)]
      | none => .list [.int (costI (intsD (.tuple ds)) (intsD dp))]) := fun o e => by unfold costD; rw [eA, e]
    have s12 := s1.trans s2
    have ha := s12 _ _ ha
    have hvp := hvp.same s12
    have k : ∀ (r : Addr) (H' : Hp), Same (L2.upd H1 e0 (.lst [])) H' → Dq H' (.ref r) (costD bs.length (.tuple ds) dp) → Q (.ref r) H' := fun r H' z q => k r H' (s12.trans z) q
    generalize L2.upd H1 e0 (.lst []) = M at *
    have pr0 : ∀ {N : Hp}, Same M N → wrongP bs.length dp = some [] → tRet (tLstN (tCons (tC (.str "prices")) (tCons (tTup tNil) tNil))) { nx := fun _ H' => Q .non H', rt := Q } [some (.ref wd), some (.ref a), some vp, some (.ref r), none] N := fun {N} sN e =>
      ⟨Nat.zero_le _, fun t ht => ⟨(by show 2 ≤ sizeLine; decide), fun R hR bR => k R _ (sN.trans ((same_new ht (.tup [])).trans (same_new hR _))) (by rw [eD _ e]; exact .lst upd_same bR (.cons (.str "prices") (.cons (.tup (same_new hR _ _ _ upd_same) .nil) .nil)))⟩⟩
    refine ⟨_, rfl, (by show 2 ≤ sizeLine; decide), fun t0 h0 => ?_⟩
    have s0 := same_new h0 (.tup [.ty "list", .ty "tuple"])
    refine ⟨vp, t0, [.ty "list", .ty "tuple"], .type (tyD dp), [.type "list", .type "tuple"], _, rfl, upd_same, .cons (.ty _) (.cons (.ty _) .nil), (hvp.same s0).ty, is_seq dp, ?_⟩
    have ha := s0 _ _ ha
    have hvp := hvp.same s0
    have k : ∀ (r : Addr) (H' : Hp), Same (L2.upd M t0 (.tup [.ty "list", .ty "tuple"])) H' → Dq H' (.ref r) (costD bs.length (.tuple ds) dp) → Q (.ref r) H' := fun r H' z q => k r H' (s0.trans z) q
    have pr0 := fun {N : Hp} (sN : Same (L2.upd M t0 (.tup [.ty "list", .ty "tuple"])) N) => pr0 (s0.trans sN)
    generalize L2.upd M t0 (.tup [.ty "list", .ty "tuple"]) = M1 at *
    have S1 : Same M1 M1 := fun _ _ e => e
    cases sb : seqB dp with
    | false => exact ⟨_, rfl, iteT (iteT (pr0 S1 (by unfold wrongP; rw [sb]; rfl)))⟩
    | true =>
      obtain ⟨kk, b, ps', rfl, hb, hp⟩ := hvp.seq sb
      have lp := hp.length
      refine ⟨_, rfl, iteF ?_⟩
      refine ⟨_, rfl, b, ps', rfl, sq_or hb.sq, _, rfl, a, _, rfl, .inr (SqT.of ha), rfl, _, rfl, ?_⟩
      rw [List.length_map, List.length_map]
      by_cases e : (itemsD dp).length = bs.length
      · refine iteN (fun z => absurd (by rw [lp, e, ld]) z) (fun _ => ?_)
        have wP : wrongP bs.length dp = firstN isNumD 0 (itemsD dp) := by unfold wrongP; rw [if_pos sb, if_pos e]
        refine ⟨_, rfl, b, ps', rfl, sq_or hb.sq, _, rfl, by omega, by omega, ?_⟩
        rw [Int.toNat_natCast]
        refine for_range (lo := 0) (n := ps'.length) (fun i σ N => ∃ v4 : Option V, σ = [some (.ref wd), some (.ref a), some (.ref b), some (.ref r), v4] ∧ Same M1 N ∧ ∀ (j : Nat) (d' : PyData), j < i → (itemsD dp)[j]? = some d' → isNumD d' = true)
          ⟨none, rfl, S1, fun j d h => absurd h (Nat.not_lt_zero _)⟩ (fun i σ N hi z => ?_) (fun σ N z => ?_)
        · obtain ⟨v4, rfl, sN, ok⟩ := z
          obtain ⟨v', ev⟩ : ∃ v', ps'[i]? = some v' := ⟨_, List.getElem?_eq_getElem hi⟩
          obtain ⟨d', ed, dq⟩ := hp.at_ ev
          have dq := dq.same sN
          have hbN := hb.same sN
          have ev' : atI ps' (0 + (i : Int)) = some v' := by rw [Int.zero_add]; exact atI_nat ev
          have bad : isNumD d' = false → tRet (tLstN (tCons (tC (.str "prices")) (tCons (tTup (tCons (tVar 4) tNil)) tNil))) { nx := fun _ H' => Q .non H', rt := Q } [some (.ref wd), some (.ref a), some (.ref b), some (.ref r), some (.int (0 + (i : Int)))] N := fun nb =>
            ⟨_, rfl, (by show 1 ≤ sizeLine; decide), fun t ht => ⟨(by show 2 ≤ sizeLine; decide), fun R hR bR => k R _ (sN.trans ((same_new ht (.tup [.int (0 + (i : Int))])).trans (same_new hR _))) (by
              have e1 : wrongP bs.length dp = some [((i : Nat) : Int)] := by rw [wP, first_at ok ed nb, Nat.zero_add]
              rw [eD _ e1]
              refine .lst upd_same bR (.cons (.str "prices") (.cons (.tup (same_new hR _ _ _ upd_same) ?_) .nil))
              rw [Int.zero_add]
              exact .cons (.int _) .nil)⟩⟩
          have good : isNumD d' = true → ∃ v4 : Option V, ([some (.ref wd), some (.ref a), some (.ref b), some (.ref r), some (.int (0 + (i : Int)))] : L2.St) = [some (.ref wd), some (.ref a), some (.ref b), some (.ref r), v4] ∧ Same M1 N ∧ ∀ (j : Nat) (d' : PyData), j < i + 1 → (itemsD dp)[j]? = some d' → isNumD d' = true := fun gb => ⟨_, rfl, sN, fun j d hj q => by
            rcases Nat.lt_succ_iff_lt_or_eq.mp hj with h | h
            · exact ok j d h q
            · subst h
              rw [ed] at q
              cases q
              exact gb⟩
          refine ⟨_, rfl, _, rfl, ixe hbN ev' ⟨v', .ty "bool", .type (tyD d'), .type "bool", _, rfl, .ty _, dq.ty, is_bool d', _, rfl, ?_⟩⟩
          have two : ∀ R : Bool → Hp → Prop, R (!(decide (tyD d' = "int") || decide (tyD d' = "bool"))) N → tNot (tB (tCB (rIsi K) (tCons (tOp (rIxE K) (tVar 2) (tVar 4)) (tCons (tC (.ty "int")) tNil)))) [some (.ref wd), some (.ref a), some (.ref b), some (.ref r), some (.int (0 + (i : Int)))] N R := fun R r =>
            ⟨_, rfl, _, rfl, ixe hbN ev' ⟨v', .ty "int", .type (tyD d'), .type "int", _, rfl, .ty _, dq.ty, is_int d', _, rfl, r⟩⟩
          cases dq with
          | int z =>
            refine iteF (two _ (iteF ⟨_, rfl, _, rfl, ixe hbN ev' ⟨_, _, rfl, rfl, _, rfl, iteD (fun neg => bad ?_) (fun pos => good ?_)⟩⟩))
            · exact decide_eq_false (by omega)
            · exact decide_eq_true (by omega)
          | bl _ => exact iteT (iteT (bad rfl))
          | non => exact iteF (two _ (iteT (iteT (bad rfl))))
          | str _ => exact iteF (two _ (iteT (iteT (bad rfl))))
          | lst _ _ _ => exact iteF (two _ (iteT (iteT (bad rfl))))
          | tup _ _ => exact iteF (two _ (iteT (iteT (bad rfl))))
          | dct _ _ => exact iteF (two _ (iteT (iteT (bad rfl))))
        · obtain ⟨v4, rfl, sN, ok⟩ := z
          have okA : ∀ (j : Nat) (d' : PyData), (itemsD dp)[j]? = some d' → isNumD d' = true := fun j d' q => ok j d' (by rw [lp]; exact (List.getElem?_eq_some_iff.mp q).1) q
          have wN : wrongP bs.length dp = none := by rw [wP]; exact first_none okA
          have ep := ints_of hp fun d' m => by
            obtain ⟨j, hj, q⟩ := List.getElem_of_mem m
            exact num_int (okA j d' (by rw [List.getElem?_eq_getElem hj, q]))
          subst ep
          have haN := sN _ _ ha
          have hbN := hb.same sN
          have lq : (ds.map intD).length = ((itemsD dp).map intD).length := by rw [List.length_map, List.length_map, ld, e]
          refine ⟨_, rfl, a, _, rfl, .inr (SqT.of haN), _, rfl, (by rw [List.length_map, List.length_map]; omega), (by rw [List.length_map, List.length_map]; omega), fun D hD => ?_⟩
          rw [List.length_map, Int.toNat_natCast]
          have lz : (List.zipWith (fun a p : Int => (if a < 0 then -a else a) * p) (ds.map intD) ((itemsD dp).map intD)).length = (ds.map intD).length := by rw [List.length_zipWith]; omega
          refine lc_range (lo := 0) (n := (ds.map intD).length) (Lc N D ((List.zipWith (fun a p : Int => (if a < 0 then -a else a) * p) (ds.map intD) ((itemsD dp).map intD)).map V.int)) (Lc.zero hD) (fun i N' hi z => ?_) (fun N' z => ?_)
          · obtain ⟨u, hu⟩ : ∃ u, (ds.map intD)[i]? = some u := ⟨_, List.getElem?_eq_getElem hi⟩
            obtain ⟨p, hpi⟩ : ∃ p, ((itemsD dp).map intD)[i]? = some p := ⟨_, List.getElem?_eq_getElem (by rw [← lq]; exact hi)⟩
            have bu := map_big ba u (List.mem_of_getElem? hu)
            have bpp := map_big bp p (List.mem_of_getElem? hpi)
            refine ⟨rfl, ?_⟩
            refine ⟨_, rfl, _, rfl, a, _, _, _, rfl, rfl, SqT.of (z.1 _ _ haN), (by rw [Int.zero_add]; exact atI_nat (mapM hu)), u, rfl, _, rfl, _, rfl, ixe (hbN.same z.1) (by rw [Int.zero_add]; exact atI_nat (mapM hpi)) ⟨_, _, rfl, rfl, ⟨?_, bpp⟩, ?_⟩⟩
            · split <;> omega
            · exact Lc.lay hD z (mapM (by rw [List.getElem?_zipWith, hu, hpi])) (by rw [List.length_map, lz, List.length_map]; omega)
          · obtain ⟨sM, eM⟩ := z.all (by rw [List.length_map, List.length_map, lz, List.length_map])
            refine ⟨D, _, rfl, SqL.of eM, (by show 1 ≤ sizeLine; decide), fun R hR bR => ?_⟩
            refine k R _ (sN.trans (sM.trans (same_new hR _))) ?_
            rw [eD _ wN]
            exact .lst upd_same bR (.cons (.int _) .nil)
      · refine iteN (fun _ => pr0 S1 (by unfold wrongP; rw [if_pos sb, if_neg e])) (fun z => absurd z ?_)
        intro q
        have := V.int.inj q
        omega
end
end My

namespace My
open PySem PySem.Spec PyProof.Rows L2
def spPlusG : Sp := fun vs H Q _ => ∃ (a b : Addr) (st r : List Int) (t : Int), vs = [.ref a, .ref b, .int t] ∧ H a = some (.tup (rowV st)) ∧ H b = some (.tup (rowV r)) ∧ st.length = r.length ∧ st.length ≤ 100 ∧ (-(1000) ≤ t ∧ t ≤ 1000) ∧
  ∀ (p : Addr) (H' : Hp), Same H H' → H' p = some (.tup (rowV (combR 1 st t r))) → Q (.ref p) H'
/-- where an account leads from a stock -/
def sumR : List Int → List Br → List Int → List Int
  | st, b :: bs, t :: ts => sumR (combR 1 st t b.2) bs ts
  | st, _, _ => st
theorem comb_len {st r : List Int} {t : Int} (h : st.length = r.length) : (combR 1 st t r).length = st.length := by
  unfold combR
  rw [List.length_zipWith]; omega
theorem sum_len : ∀ {bs : List Br} {ts st : List Int}, (∀ b ∈ bs, b.2.length = st.length) → (sumR st bs ts).length = st.length
  | [], _, _, _ => by simp [sumR]
  | _ :: _, [], _, _ => by simp [sumR]
  | b :: bs, t :: ts, st, h => by
    have e := comb_len (st := st) (r := b.2) (t := t) (h b List.mem_cons_self).symm
    show (sumR (combR 1 st t b.2) bs ts).length = _
    rw [sum_len (fun b' m => by rw [e]; exact h b' (List.mem_cons_of_mem _ m)), e]
theorem sum_next : ∀ {bs : List Br} {ts st : List Int} {i : Nat} {b : Br} {t : Int}, bs[i]? = some b → ts[i]? = some t → sumR st (bs.take (i + 1)) (ts.take (i + 1)) = combR 1 (sumR st (bs.take i) (ts.take i)) t b.2
  | b :: bs, t :: ts, st, 0, _, _, e1, e2 => by
    cases e1; cases e2
    rfl
  | b :: bs, t :: ts, st, i + 1, b', t', e1, e2 => sum_next (bs := bs) (ts := ts) (st := combR 1 st t b.2) (i := i) e1 e2
  | [], _, _, i, _, _, e1, _ => by cases i <;> cases e1
  | _ :: _, [], _, i, _, _, _, e2 => by cases i <;> cases e2
def spSummed (C : Addr) : Sp := fun vs H Q _ => ∃ (wd g l x a b : Addr) (ps : List Addr) (ex : List (Key × V)) (gs : List Str) (bs : List Br) (st ts : List Int), vs = [.ref wd, .ref a, .ref b] ∧ WorldX C H wd g l x ps ex gs bs ∧ H a = some (.tup (rowV st)) ∧ st.length = gs.length ∧ H b = some (.tup (rowV ts)) ∧ ts.length = bs.length ∧ (∀ t ∈ ts, -(1000) ≤ t ∧ t ≤ 1000) ∧
  ∀ (p : Addr) (H' : Hp), Same H H' → H' p = some (.tup (rowV (sumR st bs ts))) → Q (.ref p) H'
def spAccount (C : Addr) : Sp := fun vs H Q _ => ∃ (s c wd : Addr) (m : Nat) (gs : List Str) (bs : List Br), vs = [.ref s, .ref wd, .int (m : Nat)] ∧ Src H s c ∧ WorldH C s c H wd gs bs ∧ m ≤ 100 ∧
  ∀ (p : Addr) (ts : List Int) (H' : Hp), Go s c H H' → H' p = some (.tup (rowV ts)) → ts.length = bs.length → (∀ t ∈ ts, -(m : Int) ≤ t ∧ t ≤ m) → Q (.ref p) H'
section
variable {P : Program} {w : World} {K : PySem.W.Frag} {mg : Str → Option Value} {base : Heap}
theorem ok_plusG (T : Tx K mg) : FnOk P w K mg base CX0 1 T.a_law_plus T.fd_law_plus ["_law_stock", "_law_row", "_law_times"] spPlusG := by
  refine T.F_law_plus.ok sc_law_plus (fun vs H Q E h => ?_) (fun cdv A outer st H vs Q E hr h => ?_)
  · obtain ⟨a, b, stk, r, t, rfl, _⟩ := h
    rfl
  obtain ⟨a, b, stk, r, t, rfl, ha, hb, hl, sl, hw, k⟩ := h
  refine ⟨_, ((pss_one (ps_ret (pe_callTy call_tuple_of (by rfl) T.n_tuple (by decide +kernel) (pa_cons (pe_lc (own := [("_law_k", 3)]) (by rfl) sc_law_plus.nd (pi_range1 rfl T.n_range (pa_cons (pe_callB call_len_seq (by rfl) T.n_len (by decide +kernel) (pa_cons (pv 0) pa_nil)) pa_nil)) (blkOk_by (own := [("_law_k", 3)]) (N := ["_law_stock", "_law_row", "_law_times", "_law_k"]) (sc := defScope s_law_plus) (by decide +kernel)) (fun _ _ _ _ _ => pg_name (i := 3) sc_law_plus.nd rfl (Or.inl rfl)) (fun _ _ _ _ _ => pts_nil) (fun _ _ _ _ _ => (pe_op op_add (pe_ix (show IxR _ (rIxT K) from ix_tup) (pv 0) (pv 3) (fun _ _ => rfl)) (pe_op op_mul (pv 2) (pe_ix (show IxR _ (rIxT K) from ix_tup) (pv 1) (pv 3) (fun _ _ => rfl)))))) pa_nil))))), ?_⟩
  refine ⟨_, rfl, a, _, rfl, .inr (SqT.of ha), _, rfl, by rw [List.length_map]; omega, by rw [List.length_map]; omega, fun D hD => ?_⟩
  rw [List.length_map, Int.toNat_natCast]
  have lC : (combR 1 stk t r).length = stk.length := comb_len hl
  refine lc_range (lo := 0) (n := stk.length) (Lc H D (rowV (combR 1 stk t r))) (Lc.zero hD) (fun kk N hk z => ?_) (fun N z => ?_)
  · obtain ⟨x0, hx0⟩ : ∃ x0, stk[kk]? = some x0 := ⟨_, List.getElem?_eq_getElem hk⟩
    obtain ⟨y0, hy0⟩ : ∃ y0, r[kk]? = some y0 := ⟨_, List.getElem?_eq_getElem (by omega)⟩
    have cg : (combR 1 stk t r)[kk]? = some (x0 + t * y0) := by
      unfold combR
      rw [List.getElem?_zipWith, hx0, hy0]
      show some (1 * x0 + t * y0) = _
      rw [Int.one_mul]
    refine ⟨rfl, _, rfl, _, rfl, a, _, _, _, rfl, rfl, SqT.of (z.1 _ _ ha), (by rw [Int.zero_add]; exact atI_nat (mapM hx0)), _, rfl, _, rfl, _, rfl, b, _, _, _, rfl, rfl, SqT.of (z.1 _ _ hb), (by rw [Int.zero_add]; exact atI_nat (mapM hy0)), _, _, rfl, rfl, .inl (by omega), _, _, rfl, rfl, ?_⟩
    exact Lc.lay hD z (mapM cg) (by rw [List.length_map]; omega)
  have ⟨sQ, eQ⟩ := z.all (by rw [List.length_map]; omega)
  exact ⟨D, _, rfl, .inl ⟨SqL.of eQ, fun p hp => k p _ (sQ.trans (same_new hp _)) upd_same⟩⟩
theorem ok_summed (T : Tx K mg) : FnOk P w K mg base CX0 2 T.a_law_summed T.fd_law_summed ["_law_world", "_law_stock", "_law_account_here"] (spSummed T.C_Book) := by
  refine T.F_law_summed.ok sc_law_summed (fun vs H Q E h => ?_) (fun cdv A outer st H vs Q E hr h => ?_)
  · obtain ⟨wd, g, l, x, a, b, ps, ex, gs, bs, st, ts, rfl, _⟩ := h
    rfl
  obtain ⟨wd, g, l, x, a, b, ps, ex, gs, bs, st, ts, rfl, W, ha, ls, hb, lt, bt, k⟩ := h
  have hu := hu_of hr
  have G_law_plus : FnOk P w K mg base CX0 1 T.a_law_plus T.fd_law_plus ["_law_stock", "_law_row", "_law_times"] spPlusG := ok_plusG T
  have hr_law_plus : Room 1 _ := hr
  have gB : ∀ {N : Hp}, Same H N → DGet N wd (.str "barters") (some (.ref l)) := fun {N} e => by rw [← w_barters g l x ex]; exact DGet.k (k := Sum.inr "barters") (e _ _ W.hw)
  have S0 : Same H H := fun _ _ e => e
  have lp : ps.length = bs.length := W.hb.1
  have gl := W.G.gl
  have bw : ∀ b ∈ bs, b.2.length = st.length := fun b m => by rw [ls]; exact (W.G.bw b m).2.1
  have hl' : (ps.map V.ref).length = (rowV ts).length := by rw [List.length_map, List.length_map]; omega
  refine ⟨_, ((pss_cons (ps_for PassesOwn.never rfl (pi_zipM (by rfl) T.n_zip (pa_cons (pe_dget hu (pv 0) pe_str (fun _ _ => rfl)) (pa_cons (pv 2) pa_nil))) (pg_tup rfl (pgs_cons (pg_name (i := 3) sc_law_summed.nd rfl (Or.inl rfl)) (pgs_cons (pg_name (i := 4) sc_law_summed.nd rfl (Or.inl rfl)) pgs_nil)))
        (pss_one (ps_set (i := 1) sc_law_summed.nd rfl (Or.inl rfl) (pe_call G_law_plus hr_law_plus rfl T.m_law_plus T.F_law_plus.kp T.b_law_plus .nil pass0 (pa_cons (pv 1) (pa_cons (pe_ix (show IxR _ (rIxT K) from ix_tup) (pv 3) pe_int (fun _ _ => rfl)) (pa_cons (pv 4) pa_nil)))))))
      (pss_one (ps_ret (pv 1))))), ?_⟩
  refine ⟨_, rfl, wd, _, rfl, gB S0, _, rfl, false, true, l, b, _, _, rfl, SqL.of W.hl, SqT.of hb, for_it (walk_zipM hl') (fun i σ N => ∃ (a' : Addr) (v3 v4 : Option V), σ = [some (.ref wd), some (.ref a'), some (.ref b), v3, v4] ∧ Same H N ∧ N a' = some (.tup (rowV (sumR st (bs.take i) (ts.take i)))))
    ⟨a, none, none, rfl, S0, ha⟩ (fun i σ N _ ⟨_, _, _, _, z, _⟩ => ⟨SqL.of (z _ _ W.hl), SqT.of (z _ _ hb)⟩) (fun i y σ N N' hi z yy => ?_) (fun σ N z => ?_)⟩
  · obtain ⟨a', v3, v4, rfl, sN, ea⟩ := z
    obtain ⟨C, u, v, rfl, nC, rfl, eu, ev⟩ := yy
    obtain ⟨p, hp, rfl⟩ := getM eu
    obtain ⟨t, ht, rfl⟩ := getM ev
    obtain ⟨b0, hb0, ra, f1, f2⟩ := W.hb.get hp
    have sC := same_new nC (.tup [.ref p, .int t])
    have s2 := sN.trans sC
    refine ⟨C, _, rfl, SqT.of upd_same, rfl, _, _, rfl, _, _, rfl, rfl, ?_⟩
    have tb := bt t (List.mem_of_getElem? ht)
    have l1 : (sumR st (bs.take i) (ts.take i)).length = st.length := sum_len fun b m => bw b (List.mem_of_mem_take m)
    have l2 := bw b0 (List.mem_of_getElem? hb0)
    refine ⟨_, rfl, _, rfl, p, _, _, _, rfl, rfl, SqT.of (s2 _ _ f1), atI_nat (j := 1) rfl, _, rfl, a', ra, _, b0.2, t, rfl, sC _ _ ea, s2 _ _ f2, by omega, by omega, tb, fun q M sM eM => ?_⟩
    exact ⟨q, _, _, rfl, s2.trans sM, by rw [sum_next hb0 ht]; exact eM⟩
  · obtain ⟨a', v3, v4, rfl, sN, ea⟩ := z
    rw [List.length_map, lp, List.take_length, ← lt, List.take_length] at ea
    exact ⟨_, rfl, k a' N sN ea⟩
theorem ok_account (T : Tx K mg) : FnOk P w K mg base CX0 2 T.a_law_account T.fd_law_account ["_law_source_here", "_law_world", "_law_most"] (spAccount T.C_Book) := by
  refine T.F_law_account.ok sc_law_account (fun vs H Q E h => ?_) (fun cdv A outer st H vs Q E hr h => ?_)
  · obtain ⟨s, c, wd, m, gs, bs, rfl, _⟩ := h
    rfl
  obtain ⟨s, c, wd, m, gs, bs, rfl, hS, ⟨g, l, x, ps, ex, W⟩, m10, k⟩ := h
  have hu := hu_of hr
  have G_law_pick : FnOk P w K mg base CX0 1 T.a_law_pick T.fd_law_pick ["_law_source_here", "_law_many"] spPick := ok_pick T
  have hr_law_pick : Room 1 _ := hr
  have lp : ps.length = bs.length := W.hb.1
  have bl := W.G.bl
  refine ⟨_, ((pss_one (ps_ret (pe_callTy call_tuple_of (by rfl) T.n_tuple (by decide +kernel) (pa_cons (pe_lc (own := [("_law_pair", 3)]) (by rfl) sc_law_account.nd (pi_list (pe_dget hu (pv 1) pe_str (fun _ _ => rfl))) (blkOk_by (own := [("_law_pair", 3)]) (N := ["_law_source_here", "_law_world", "_law_most", "_law_pair"]) (sc := defScope s_law_account) (by decide +kernel)) (fun _ _ _ _ _ => pg_name (i := 3) sc_law_account.nd rfl (Or.inl rfl)) (fun _ _ _ _ _ => pts_nil) (fun _ _ _ _ _ => (pe_op op_sub (pe_call G_law_pick hr_law_pick rfl T.m_law_pick T.F_law_pick.kp T.b_law_pick .nil pass0 (pa_cons (pv 0) (pa_cons (pe_op op_add (pe_op op_mul pe_int (pv 2)) pe_int) pa_nil))) (pv 2)))) pa_nil))))), ?_⟩
  obtain ⟨_, _, hwd⟩ := cut_at' W.hw
  obtain ⟨ngs, ngc, hg⟩ := cut_at' W.hl
  have gg : DGet H wd (.str "barters") (some (.ref l)) := by rw [← w_barters g l x ex]; exact DGet.k (k := Sum.inr "barters") hwd
  refine ⟨_, rfl, wd, _, rfl, gg, l, rfl, ⟨_, SqL.of hg⟩, fun D hD => ?_⟩
  have nD := hS.ne_none hD
  refine lc_list (xs := ps.map V.ref) (fun i M => ∃ r : List Int, (∀ b u, b ≠ s → b ≠ c → H b = some u → M b = some u) ∧ Src M s c ∧ M D = some (.lst (rowV r)) ∧ r.length = i ∧ ∀ z ∈ r, -(m : Int) ≤ z ∧ z ≤ m) ⟨[], fun b u _ _ e => same_new hD _ _ _ e, hS.same (same_new hD _), upd_same, rfl, fun _ h => nomatch h⟩ (fun i M _ ⟨_, old, _⟩ => SqL.of (old _ _ ngs ngc hg)) (fun i y M hy z => ?_) (fun M z => ?_)
  · obtain ⟨r, old, S, eD, lr, pr⟩ := z
    have hi : i < ps.length := by have := (List.getElem?_eq_some_iff.mp hy).1; rw [List.length_map] at this; exact this
    refine ⟨rfl, _, rfl, _, rfl, _, _, rfl, rfl, .inl (by decide), _, _, rfl, rfl, s, c, _, rfl, S, by omega, by omega, fun j N1 j0 j1 g1 => ?_⟩
    have eD5 := g1.lst S eD nD.2
    refine ⟨_, rfl, _, _, rfl, rfl, _, eD5, by rw [List.length_map, lr]; exact small1000 (by omega), r ++ [j - m], fun b u n1 n2 e => ?_, g1.src.upd6 nD, by rw [upd_same, rowV_app], by rw [List.length_append, lr]; rfl, fun z hz => ?_⟩
    · rw [upd_ne (ne_of_none e hD)]
      exact g1.keep _ _ n1 n2 (old b u n1 n2 e)
    · rcases List.mem_append.mp hz with h | h
      · exact pr z h
      · rw [List.mem_singleton.mp h]
        exact ⟨by omega, by omega⟩
  · obtain ⟨r, old, S, eD, lr, pr⟩ := z
    refine ⟨D, _, rfl, .inl ⟨SqL.of eD, fun p hp => ?_⟩⟩
    rw [List.length_map] at lr
    exact k p r _ (Go.then ⟨fun b u n1 n2 e => old b u n1 n2 e, S⟩ (same_new hp _)) upd_same (by omega) pr
end
end My

namespace My
open PySem PySem.Spec PyProof.Rows L2
def spPick0 : Sp := fun vs H Q _ => ∃ (s c : Addr), vs = [.ref s, .int 0] ∧ Src H s c ∧ ∀ (H' : Hp), Go s c H H' → Q (.int 0) H'
/-- a pick of one of any number of things, of none as well -/
def spPick2 : Sp := fun vs H Q _ => ∃ (s c : Addr) (n : Nat), vs = [.ref s, .int (n : Nat)] ∧ Src H s c ∧ n < 1000000 ∧ ∀ (k : Nat) (H' : Hp), (k < n ∨ (n = 0 ∧ k = 0)) → Go s c H H' → Q (.int (k : Nat)) H'
theorem FnOk.either {P : Program} {w : World} {K : PySem.W.Frag} {mg : Str → Option Value} {base : Heap} {CX : CXT} {k : Nat} {f : Addr} {fd : FuncData} {ps : List Str} {sp sp1 sp2 : Sp} (F1 : FnOk P w K mg base CX k f fd ps sp1) (F2 : FnOk P w K mg base CX k f fd ps sp2) (h : ∀ vs H Q E, sp vs H Q E → sp1 vs H Q E ∨ sp2 vs H Q E) : FnOk P w K mg base CX k f fd ps sp := by
  refine ⟨fun vs H Q E q => ?_, fun A outer s H args us vs Q E hr e0 hb r q => ?_⟩
  · rcases h vs H Q E q with q | q
    · exact F1.len _ _ _ _ q
    · exact F2.len _ _ _ _ q
  · rcases h vs H Q E q with q | q
    · exact F1.run A outer s H args us vs Q E hr e0 hb r q
    · exact F2.run A outer s H args us vs Q E hr e0 hb r q
section
variable {P : Program} {w : World} {K : PySem.W.Frag} {mg : Str → Option Value} {base : Heap}
theorem ok_pick0 (T : Tx K mg) : FnOk P w K mg base CX0 1 T.a_law_pick T.fd_law_pick ["_law_source_here", "_law_many"] spPick0 := by
  refine T.F_law_pick.ok sc_law_pick (fun vs H Q E h => ?_) (fun cdv A outer st H vs Q E hr h => ?_)
  · obtain ⟨s, c, rfl, _⟩ := h
    rfl
  obtain ⟨s, c, rfl, hS, k⟩ := h
  have hu := hu_of hr
  refine ⟨_, ((pss_cons (ps_while PassesOwn.never (PW.pt (pw_and (pt_cmpR op_gt (pv 1) pe_int (nomark _)) (pw_and (pt_cmpR op_lt (pe_dget hu (pv 0) pe_str (fun _ _ => rfl)) pe_int (nomark _)) (pw_and1 (pt_cmpR op_gt (pe_callB call_len_seq (by rfl) T.n_len (by decide +kernel) (pa_cons (pe_dget hu (pv 0) pe_str (fun _ _ => rfl)) pa_nil)) pe_int (nomark _))))))
        (pss_one (ps_dput hu (pv 0) pe_str (pe_bm0 PySem.F.plainAttrs_list PySem.F.slot_list_pop PySem.F.type_list_pop mt_pop (pe_dget hu (pv 0) pe_str (fun _ _ => rfl))) rfl)))
      (pss_cons (ps_set (i := 2) sc_law_pick.nd rfl (Or.inl rfl) (pe_dget hu (pv 0) pe_str (fun _ _ => rfl)))
      (pss_cons (ps_if (PW.pt (pw_or (pt_cmpR op_lt (pv 1) pe_int (nomark _)) (pw_or1 (pt_cmpR op_gt (pv 2) pe_int (nomark _)))))
        (pss_cons (ps_dput hu (pv 0) pe_str (pe_op op_fdiv (pv 2) (pe_callB (call_max2 rfl) (by rfl) T.n_max (by decide +kernel) (pa_cons pe_int (pa_cons (pv 1) pa_nil)))) rfl)
      (pss_one (ps_ret (pe_op op_mod (pe_callTy call_int1 (by rfl) T.n_int (by decide +kernel) (pa_cons (pv 2) pa_nil)) (pe_callB (call_max2 rfl) (by rfl) T.n_max (by decide +kernel) (pa_cons pe_int (pa_cons (pv 1) pa_nil)))))))
        pss_nil)
      (pss_cons (ps_dput hu (pv 0) pe_str (pe_op op_add (pe_dget hu (pv 0) pe_str (fun _ _ => rfl)) pe_int) rfl)
      (pss_cons (ps_set (i := 3) sc_law_pick.nd rfl (Or.inl rfl) (pe_op op_mod (pe_callTy call_int1 (by rfl) T.n_int (by decide +kernel) (pa_cons (pe_op op_add (pe_dget hu (pv 0) pe_str (fun _ _ => rfl)) (pe_op op_mul (pe_dget hu (pv 0) pe_str (fun _ _ => rfl)) pe_int)) pa_nil)) pe_int))
      (pss_cons (ps_set (i := 3) sc_law_pick.nd rfl (Or.inl rfl) (pe_op op_mod (pe_callTy call_int1 (by rfl) T.n_int (by decide +kernel) (pa_cons (pe_op op_add (pe_op op_mul (pv 3) (pv 3)) (pe_op op_mul (pe_dget hu (pv 0) pe_str (fun _ _ => rfl)) pe_int)) pa_nil)) pe_int))
      (pss_cons (ps_dput hu (pv 0) pe_str (pv 3) rfl)
      (pss_one (ps_ret (pe_op op_mod (pe_callTy call_int1 (by rfl) T.n_int (by decide +kernel) (pa_cons (pe_op op_fdiv (pv 3) pe_int) pa_nil)) (pv 1)))))))))))), ?_⟩
  refine while_b (fun σ H' => σ = [some (.ref s), some (.int 0), none, none] ∧ Go s c H H') (fun _ H' => cellsLeft c H') ⟨rfl, Go.refl hS⟩ ?_
  rintro σ H1 ⟨rfl, g⟩
  obtain ⟨l, m, t, ns, S⟩ := id g.src
  have gs : ∀ (x : Str) (v : V), valV (srcD c l m t) (Sum.inr x) = some v → DGet H1 s (.str x) (some v) := fun x v e => by
    rw [← e]
    exact DGet.k (k := Sum.inr x) S.hs
  refine ⟨false, fun Q' q => ?_, iteF ?_⟩
  · exact ⟨_, rfl, _, _, rfl, rfl, _, rfl, iteD (fun w1 => absurd w1 (by decide)) (fun _ => q)⟩
  refine ⟨_, rfl, s, _, rfl, gs "left" _ (get_left _ _ _ _), ?_⟩
  have put : ∀ (l' : Int), 0 ≤ l' → SrcL (upd H1 s (.dK (srcD c l' m t))) s c l' m t ns ∧ Go s c H (upd H1 s (.dK (srcD c l' m t))) := fun l' a1 => by
    have S3 : SrcL (upd H1 s (.dK (srcD c l' m t))) s c l' m t ns := ⟨upd_same, by rw [upd_ne S.ne.symm]; exact S.hc, a1, S.m0, S.m1, S.t0, S.n0, S.len⟩
    refine ⟨S3, fun a o h1 h2 e => ?_, _, _, _, _, S3⟩
    rw [upd_ne h1]
    exact g.keep a o h1 h2 e
  have sz : (srcD c l m t).length < sizeLine := by show 4 < sizeLine; decide
  refine ⟨_, rfl, _, _, rfl, rfl, _, rfl, iteD (fun c1 => ?_) (fun c1 => absurd (by decide) c1)⟩
  have S2 := put (l / 1) (Int.ediv_nonneg S.l0 (by omega))
  have mz : (if (0 : Int) > 1 then (0 : Int) else 1) = 1 := rfl
  refine ⟨_, rfl, _, rfl, _, _, rfl, _, _, rfl, rfl, (by rw [mz]; exact ⟨by omega, by omega⟩), _, rfl, s, _, rfl, DPut.k (k := Sum.inr "left") S.hs sz, ?_⟩
  rw [put_left, mz]
  refine ⟨_, rfl, .inl ⟨_, rfl, _, rfl, _, _, rfl, _, _, rfl, rfl, (by rw [mz]; omega : (0 : Int) < if (0 : Int) > 1 then (0 : Int) else 1), ?_⟩⟩
  rw [mz]
  have q := k _ S2.2
  rw [← Int.emod_one l] at q
  exact q
theorem ok_pick2 (T : Tx K mg) : FnOk P w K mg base CX0 1 T.a_law_pick T.fd_law_pick ["_law_source_here", "_law_many"] spPick2 :=
  FnOk.either (ok_pick T) (ok_pick0 T) fun vs H Q E ⟨s, c, n, e, S, n1, k⟩ => by
    match n, n1, e, k with
    | 0, _, e, k => exact .inr ⟨s, c, e, S, fun H' g => k 0 H' (.inr ⟨rfl, rfl⟩) g⟩
    | n + 1, n1, e, k => exact .inl ⟨s, c, _, e, S, by omega, by omega, fun j H' j0 j1 g => by
        have := k j.toNat H' (.inl (by omega)) g
        rw [Int.toNat_of_nonneg j0] at this
        exact this⟩
end
end My

namespace My
open PySem PySem.Spec PyProof.Rows L2
/-! ### odd values -/
def bigB (ds : List PyData) : Bool := ds.all fun x => decide (-(10 ^ 40) < intD x) && decide (intD x < 10 ^ 40)
theorem big_all {ds : List PyData} (h : bigB ds = true) : ∀ x ∈ ds, -(10 ^ 40) < intD x ∧ intD x < 10 ^ 40 := fun x hx => by
  have q := (List.all_eq_true.mp h) x hx
  rw [Bool.and_eq_true, decide_eq_true_iff, decide_eq_true_iff] at q
  exact q
theorem big_by {ds : List PyData} (h : bigB ds = true) {d : PyData} (e : itemsD d = ds := by rfl) : BigD d := fun x hx => big_all h x (by rw [← e]; exact hx)
theorem big_no {d : PyData} (e : itemsD d = []) : BigD d := fun x hx => by rw [e] at hx; cases hx
theorem forall_cons {α : Type} {p : α → Prop} {x : α} {xs : List α} (h : p x) (t : ∀ y ∈ xs, p y) : ∀ y ∈ x :: xs, p y := List.forall_mem_cons.mpr ⟨h, t⟩
theorem forall_nil {α : Type} {p : α → Prop} : ∀ y ∈ ([] : List α), p y := List.forall_mem_nil _
theorem zlo : -(10 ^ 40) < (0 : Int) := by decide +kernel
theorem zhi : (0 : Int) < 10 ^ 40 := by decide +kernel
/-- a value that is no fork -/
def OddQ (s c : Addr) (H : Hp) (v : V) : Prop := ∃ d, Dq (cutH s c H) v d ∧ forkD d = false ∧ (∀ x, d = .str x → x.length ≤ 100000 ∧ PyData.strOk x = true ∧ 100 ≤ idxS x) ∧ SmN 0 d ∧ BigD d ∧ -(10 ^ 40) < intD d ∧ intD d < 10 ^ 40
theorem sma {ds : List PyData} (h : (PyData.showableAll ds && decide (PyData.depthAll ds ≤ 1) && PyData.leavesShortAll 40 ds && decide (PyData.bulkAll ds ≤ 40)) = true) : SmA 1 40 ds := by
  simp only [Bool.and_eq_true, decide_eq_true_iff] at h
  exact ⟨h.1.1.1, h.1.1.2, h.1.2, h.2⟩
theorem smd {d : PyData} (h : (d.showable && decide (d.depth ≤ 2) && d.leavesShort 40 && decide (d.bulk ≤ 40)) = true) : SmN 0 d := by
  simp only [Bool.and_eq_true, decide_eq_true_iff] at h
  exact ⟨h.1.1.1, h.1.1.2, h.1.2, h.2⟩
section
variable {s c p : Addr} {H H' : Hp} {v : V}
theorem OddQ.non : OddQ s c H .non := ⟨_, .non, rfl, (fun _ e => nomatch e), .non, big_no rfl, zlo, zhi⟩
theorem OddQ.bl (b : Bool) : OddQ s c H (.bl b) := ⟨_, .bl b, rfl, (fun _ e => nomatch e), ⟨rfl, Nat.zero_le _, rfl, Nat.zero_le _⟩, big_no rfl, zlo, zhi⟩
theorem OddQ.int (i : Int) (h : SmN 0 (.int i)) (lo : -(10 ^ 40) < i) (hi : i < 10 ^ 40) : OddQ s c H (.int i) := ⟨_, .int i, rfl, (fun _ e => nomatch e), h, big_no rfl, lo, hi⟩
theorem OddQ.str (x : Str) (h : x.length ≤ 40) (k : PyData.strOk x = true) (ix : 100 ≤ idxS x) : OddQ s c H (.str x) := ⟨_, .str x, rfl, (fun y e => by cases e; exact ⟨by omega, k, ix⟩), .str k h, big_no rfl, zlo, zhi⟩
theorem OddQ.tup {xs : List V} {ds : List PyData} (S : Src H s c) (hp : H p = none) (h : DqAll (cutH s c H) xs ds) (n : ds.length ≠ 3) (q : SmA 1 40 ds) (bg : bigB ds = true) : OddQ s c (upd H p (.tup xs)) (.ref p) :=
  ⟨.tuple ds, .tup (cut_in (S.ne_none hp) upd_same) (h.same (cut_of (same_new hp _))), decide_eq_false n, (fun _ e => nomatch e), q.tuple, big_by bg, zlo, zhi⟩
theorem OddQ.lst {xs : List V} {ds : List PyData} (S : Src H s c) (hp : H p = none) (big : sysModules < p) (h : DqAll (cutH s c H) xs ds) (q : SmA 1 40 ds) (bg : bigB ds = true) : OddQ s c (upd H p (.lst xs)) (.ref p) :=
  ⟨.list ds, .lst (cut_in (S.ne_none hp) upd_same) big (h.same (cut_of (same_new hp _))), rfl, (fun _ e => nomatch e), q.list, big_by bg, zlo, zhi⟩
theorem OddQ.dct {kvs : List (Key × V)} {es : List (PyData × PyData)} (S : Src H s c) (hp : H p = none) (x : DctE kvs es) : OddQ s c (upd H p (.dK kvs)) (.ref p) :=
  ⟨.dict es, .dct (cut_in (S.ne_none hp) upd_same) x, rfl, (fun _ e => nomatch e), (by cases x <;> exact smd (by decide +kernel)), big_no rfl, zlo, zhi⟩
theorem OddQ.same (e : Same H H') (h : OddQ s c H v) : OddQ s c H' v := by
  obtain ⟨d, a, b, k⟩ := h
  exact ⟨d, a.same (cut_of e), b, k⟩
theorem OddQ.go (g : Go s c H H') (h : OddQ s c H v) : OddQ s c H' v := by
  obtain ⟨d, a, b, k⟩ := h
  exact ⟨d, a.same (cut_go g), b, k⟩
end
def spOddQ : Sp := fun vs H Q _ => ∃ (s c : Addr), vs = [.ref s] ∧ Src H s c ∧ ∀ (v : V) (H' : Hp), OddQ s c H' v → Go s c H H' → Q v H'
section
variable {P : Program} {w : World} {K : PySem.W.Frag} {mg : Str → Option Value} {base : Heap}
theorem ok_odd (T : Tx K mg) : FnOk P w K mg base CX0 3 T.a_law_odd T.fd_law_odd ["_law_source_here"] spOddQ := by
  refine T.F_law_odd.ok sc_law_odd (fun vs H Q E h => ?_) (fun cdv A outer st H vs Q E hr h => ?_)
  · obtain ⟨s, c, rfl, _⟩ := h
    rfl
  obtain ⟨s, c, rfl, hS, k⟩ := h
  have G_law_of : FnOk P w K mg base CX0 2 T.a_law_of T.fd_law_of ["_law_source_here", "_law_some"] (spOf K) := ok_of T
  have hr_law_of : Room 2 _ := hr
  refine ⟨_, ((pss_cons (ps_set (i := 1) sc_law_odd.nd rfl (Or.inl rfl) (pe_lst (pa_cons pe_non (pa_cons pe_bl (pa_cons pe_bl (pa_cons (pe_un un_neg pe_int) (pa_cons pe_int (pa_cons (pe_op op_pow pe_int pe_int) (pa_cons pe_str (pa_cons pe_str (pa_cons pe_str (pa_cons (pe_tup pa_nil) (pa_cons (pe_lstN pa_nil) (pa_cons pe_dnewK (pa_cons (pe_tup (pa_cons pe_non pa_nil)) (pa_cons (pe_lstN (pa_cons (pe_tup pa_nil) pa_nil)) (pa_cons (pe_tup (pa_cons pe_int pa_nil)) (pa_cons (pe_tup (pa_cons pe_int (pa_cons pe_int pa_nil))) (pa_cons (pe_tup (pa_cons pe_str (pa_cons pe_int pa_nil))) pa_nil)))))))))))))))))))
      (pss_one (ps_ret (pe_call G_law_of hr_law_of rfl T.m_law_of T.F_law_of.kp T.b_law_of .nil pass0 (pa_cons (pv 0) (pa_cons (pe_op op_cat (pv 1) (pe_lst (pa_cons (pe_disp (pps_cons pe_int pe_int pps_nil) (by rfl) (by rfl) (fun z => by cases z) (by decide)) pa_nil))) pa_nil))))))), ?_⟩
  refine ⟨_, rfl, _, _, rfl, rfl, ⟨by decide, by decide, by decide⟩, Nat.zero_le _, fun p1 h1 => ?_⟩
  have s1 := same_new h1 (.tup [])
  have S1 := hS.same s1
  have o1 : OddQ s c (upd H p1 (.tup [])) (.ref p1) := .tup hS h1 .nil (by decide) .nil (by decide +kernel)
  refine ⟨Nat.zero_le _, fun p2 h2 big2 => fun p3 h3 => ⟨(by show 1 ≤ sizeLine; decide), fun p4 h4 => ⟨Nat.zero_le _, fun p5 h5 => ⟨(by show 1 ≤ sizeLine; decide), fun p6 h6 big6 => ?_⟩⟩⟩⟩
  have s2 := same_new h2 (.lst [])
  have S2 := S1.same s2
  have o2 : OddQ s c _ (.ref p2) := .lst S1 h2 big2 (xs := []) .nil .nil (by decide +kernel)
  have s3 := same_new h3 (.dK [])
  have S3 := S2.same s3
  have o3 : OddQ s c _ (.ref p3) := .dct S2 h3 .none
  have s4 := same_new h4 (.tup [.non])
  have S4 := S3.same s4
  have o4 : OddQ s c _ (.ref p4) := .tup S3 h4 (xs := [.non]) (.cons .non .nil) (by decide) (sma (by decide +kernel)) (by decide +kernel)
  have s5 := same_new h5 (.tup [])
  have S5 := S4.same s5
  have s6 := same_new h6 (.lst [.ref p5])
  have S6 := S5.same s6
  have o6 : OddQ s c _ (.ref p6) := .lst S5 h6 big6 (xs := [.ref p5]) (.cons (.tup (cut_in (S4.ne_none h5) upd_same) .nil) .nil) (sma (by decide +kernel)) (by decide +kernel)
  refine ⟨(by show 1 ≤ sizeLine; decide), fun p7 h7 => ⟨(by show 2 ≤ sizeLine; decide), fun p8 h8 => ⟨(by show 2 ≤ sizeLine; decide), fun p9 h9 => ⟨(by show 17 ≤ sizeLine; decide), fun p10 h10 => ?_⟩⟩⟩⟩
  have s7 := same_new h7 (.tup [.int 0])
  have S7 := S6.same s7
  have o7 : OddQ s c _ (.ref p7) := .tup S6 h7 (xs := [.int 0]) (.cons (.int 0) .nil) (by decide) (sma (by decide +kernel)) (by decide +kernel)
  have s8 := same_new h8 (.tup [.int 0, .int 0])
  have S8 := S7.same s8
  have o8 : OddQ s c _ (.ref p8) := .tup S7 h8 (xs := [.int 0, .int 0]) (.cons (.int 0) (.cons (.int 0) .nil)) (by decide) (sma (by decide +kernel)) (by decide +kernel)
  have s9 := same_new h9 (.tup [.str "x", .int 1])
  have S9 := S8.same s9
  have o9 : OddQ s c _ (.ref p9) := .tup S8 h9 (xs := [.str "x", .int 1]) (.cons (.str "x") (.cons (.int 1) .nil)) (by decide) (sma (by decide +kernel)) (by decide +kernel)
  have s10 := same_new h10 (.lst [.non, .bl true, .bl false, .int (-1), .int 7, .int ((10 : Int) ^ (30 : Int).toNat), .str "", .str "A", .str "x", .ref p1, .ref p2, .ref p3, .ref p4, .ref p6, .ref p7, .ref p8, .ref p9])
  have S10 := S9.same s10
  refine ⟨_, rfl, _, rfl, fun p11 h11 => ?_⟩
  have s11 := same_new h11 (.dK [])
  have S11 := S10.same s11
  have e12 : upd (upd (upd (upd (upd (upd (upd (upd (upd (upd (upd (upd H p1 (.tup [])) p2 (.lst [])) p3 (.dK [])) p4 (.tup [.non])) p5 (.tup [])) p6 (.lst [.ref p5])) p7 (.tup [.int 0])) p8 (.tup [.int 0, .int 0])) p9 (.tup [.str "x", .int 1])) p10 (.lst [.non, .bl true, .bl false, .int (-1), .int 7, .int ((10 : Int) ^ (30 : Int).toNat), .str "", .str "A", .str "x", .ref p1, .ref p2, .ref p3, .ref p4, .ref p6, .ref p7, .ref p8, .ref p9])) p11 (.dK [])) p11 (.dK [(.inl 0, .int 1)]) = upd (upd (upd (upd (upd (upd (upd (upd (upd (upd (upd H p1 (.tup [])) p2 (.lst [])) p3 (.dK [])) p4 (.tup [.non])) p5 (.tup [])) p6 (.lst [.ref p5])) p7 (.tup [.int 0])) p8 (.tup [.int 0, .int 0])) p9 (.tup [.str "x", .int 1])) p10 (.lst [.non, .bl true, .bl false, .int (-1), .int 7, .int ((10 : Int) ^ (30 : Int).toNat), .str "", .str "A", .str "x", .ref p1, .ref p2, .ref p3, .ref p4, .ref p6, .ref p7, .ref p8, .ref p9])) p11 (.dK [(.inl 0, .int 1)]) := upd_upd
  have em : mergeK [] [((.inl 0 : Key), V.int 1)] = [((.inl 0 : Key), V.int 1)] := rfl
  refine ⟨upd_same, [(.inl 0, .int 1)], rfl, by decide, ?_⟩
  rw [em, e12]
  have s12 := same_new h11 (.dK [(.inl 0, .int 1)])
  have S12 := S10.same s12
  have o12 : OddQ s c _ (.ref p11) := .dct S10 h11 .one
  refine ⟨(by show 1 ≤ sizeLine; decide), fun p13 h13 => ?_⟩
  have s13 := same_new h13 (.lst [.ref p11])
  have S13 := S12.same s13
  refine ⟨p10, p13, _, _, rfl, rfl, s13 _ _ (s12 _ _ upd_same), upd_same, (by show 18 ≤ sizeLine; decide), fun p14 h14 => ?_⟩
  have s14 := same_new h14 (.lst ([.non, .bl true, .bl false, .int (-1), .int 7, .int ((10 : Int) ^ (30 : Int).toNat), .str "", .str "A", .str "x", .ref p1, .ref p2, .ref p3, .ref p4, .ref p6, .ref p7, .ref p8, .ref p9] ++ [.ref p11]))
  have S14 := S13.same s14
  have n14 := S13.ne_none h14
  refine ⟨s, c, p14, _, rfl, S14, upd_same, n14.2, (by show 1 ≤ 18; decide), (by show 18 < 1000000; decide), fun i x H1 hx g1 => ?_⟩
  have t9 := ((((s10.trans s12).trans s13).trans s14))
  have t8 := s9.trans t9
  have t7 := s8.trans t8
  have t6 := s7.trans t7
  have t4 := (s5.trans s6).trans t6
  have t3 := s4.trans t4
  have t2 := s3.trans t3
  have t1 := s2.trans t2
  have all : ∀ y ∈ ([.non, .bl true, .bl false, .int (-1), .int 7, .int ((10 : Int) ^ (30 : Int).toNat), .str "", .str "A", .str "x", .ref p1, .ref p2, .ref p3, .ref p4, .ref p6, .ref p7, .ref p8, .ref p9, .ref p11] : List V), OddQ s c _ y :=
    forall_cons OddQ.non (forall_cons (OddQ.bl true) (forall_cons (OddQ.bl false) (forall_cons (OddQ.int _ (smd (by decide +kernel)) (by decide +kernel) (by decide +kernel)) (forall_cons (OddQ.int _ (smd (by decide +kernel)) (by decide +kernel) (by decide +kernel)) (forall_cons (OddQ.int _ (smd (by decide +kernel)) (by decide +kernel) (by decide +kernel)) (forall_cons (OddQ.str "" (by decide +kernel) (by decide +kernel) (by decide +kernel)) (forall_cons (OddQ.str "A" (by decide +kernel) (by decide +kernel) (by decide +kernel)) (forall_cons (OddQ.str "x" (by decide +kernel) (by decide +kernel) (by decide +kernel))
      (forall_cons (o1.same t1) (forall_cons (o2.same t2) (forall_cons (o3.same t3) (forall_cons (o4.same t4) (forall_cons (o6.same t6) (forall_cons (o7.same t7) (forall_cons (o8.same t8) (forall_cons (o9.same t9) (forall_cons (o12.same (s13.trans s14)) forall_nil)))))))))))))))))
  exact k x H1 ((all x (List.mem_of_getElem? hx)).go g1) ((Go.of hS (s1.trans t1)).trans g1)
end
end My

namespace My
open PySem PySem.Spec PyProof.Rows L2
theorem mixed_mm {r : List Int} {m M : Int} (hm : m ∈ r) (h1 : m < 0) (hM : M ∈ r) (h2 : 0 < M) : mixedB r = true := by
  unfold mixedB
  rw [Bool.and_eq_true]
  exact ⟨List.any_eq_true.mpr ⟨m, hm, decide_eq_true h1⟩, List.any_eq_true.mpr ⟨M, hM, decide_eq_true h2⟩⟩
theorem go_mut {s c D : Addr} {H M : Hp} {o : HO} (g : Go s c H M) (h : H D = none) (n : D ≠ s ∧ D ≠ c) : Go s c H (L2.upd M D o) := by
  refine ⟨fun a u h1 h2 e => ?_, g.src.upd6 n⟩
  rw [upd_ne (ne_of_none e h)]
  exact g.keep a u h1 h2 e
theorem brs_append {H : Hp} {ps qs : List Addr} {bs cs : List Br} (h : BrsAt H ps bs) (h2 : BrsAt H qs cs) : BrsAt H (ps ++ qs) (bs ++ cs) := by
  refine ⟨by rw [List.length_append, List.length_append, h.1, h2.1], fun i p b e1 e2 => ?_⟩
  by_cases l : i < ps.length
  · rw [List.getElem?_append_left l] at e1
    rw [List.getElem?_append_left (by rw [← h.1]; exact l)] at e2
    exact h.2 i p b e1 e2
  · rw [List.getElem?_append_right (by omega)] at e1
    rw [List.getElem?_append_right (by rw [← h.1]; omega)] at e2
    exact h2.2 (i - ps.length) p b e1 (by rw [h.1]; exact e2)
theorem good_more {gs : List Str} {bs ms cs : List Br} (G : GoodBk gs bs) (ix : ∀ b ∈ bs, idxS b.1 < 100) (hm : ∀ b ∈ ms, wordD (.str b.1) = true ∧ b.2.length = gs.length ∧ mixedB b.2 = true) (ni : ∀ b ∈ ms, 100 ≤ idxS b.1) (nd : (ms.map (·.1)).Nodup) (l : bs.length + ms.length ≤ 100) (p : cs.Perm (bs ++ ms)) : GoodBk gs cs := by
  refine ⟨G.gw, G.gn, G.gl, fun b hb => ?_, ?_, by rw [p.length_eq, List.length_append]; exact l⟩
  · rcases List.mem_append.mp (p.mem_iff.mp hb) with h | h
    · exact G.bw b h
    · exact hm b h
  · refine (p.map (·.1)).nodup_iff.mpr ?_
    rw [List.map_append, List.nodup_append]
    refine ⟨G.bn, nd, fun a ha b hb e => ?_⟩
    obtain ⟨x, hx, rfl⟩ := List.mem_map.mp ha
    obtain ⟨y, hy, rfl⟩ := List.mem_map.mp hb
    have h1 := ix x hx
    have h2 := ni y hy
    rw [e] at h1
    omega
theorem more_facts : (["more1", "more2", "more3"] : List Str).Nodup ∧ ∀ x ∈ (["more1", "more2", "more3"] : List Str), wordD (.str x) = true ∧ 100 ≤ idxS x := by decide +kernel

def spBookS (C : Addr) : Sp := fun vs H Q _ => ∃ (s c : Addr), vs = [.ref s] ∧ Src H s c ∧
  ∀ (wd : Addr) (gs : List Str) (bs : List Br) (H' : Hp), Go s c H H' → WorldH C s c H' wd gs bs → gs.length ≤ 10 → bs.length ≤ 13 → Q (.ref wd) H'
section
variable {P : Program} {w : World} {K : PySem.W.Frag} {mg : Str → Option Value} {base : Heap}
theorem ok_some_bookS (T : Tx K mg) : FnOk P w K mg base CX0 15 T.a_law_some_book T.fd_law_some_book ["_law_source_here"] (spBookS T.C_Book) := by
  refine T.F_law_some_book.ok sc_law_some_book (fun vs H Q E h => ?_) (fun cdv A outer st H vs Q E hr h => ?_)
  · obtain ⟨s, c, rfl, _⟩ := h
    rfl
  obtain ⟨s, c, rfl, hS, k⟩ := h
  have hu := hu_of (k := 1) (hr.mono (by omega))
  have G_law_pick : FnOk P w K mg base CX0 1 T.a_law_pick T.fd_law_pick ["_law_source_here", "_law_many"] spPick := ok_pick T
  have hr_law_pick : Room 1 _ := hr.mono (by omega)
  have G_law_book : FnOk P w K mg base CX0 14 T.a_law_book T.fd_law_book ["_law_source_here", "_law_most"] (spBookD T.C_Book 1) := ok_book T
  have hr_law_book : Room 14 _ := hr
  have G_law_any_book : FnOk P w K mg base CX0 8 T.a_law_any_book T.fd_law_any_book ["_law_source_here", "_law_most"] (spBookD T.C_Book 2) := ok_any_book T
  have hr_law_any_book : Room 8 _ := hr.mono (by omega)
  have G_law_made : FnOk P w K mg base CX0 7 T.a_law_made T.fd_law_made ["_law_goods", "_law_barters"] (spMade T.C_Book) := ok_made T
  have hr_law_made : Room 7 _ := hr.mono (by omega)
  have G_law_mixed : FnOk P w K mg base CX0 2 T.a_law_mixed T.fd_law_mixed ["_law_source_here", "_law_things"] spMixed := ok_mixed T
  have hr_law_mixed : Room 2 _ := hr.mono (by omega)
  have G_law_summed : FnOk P w K mg base CX0 2 T.a_law_summed T.fd_law_summed ["_law_world", "_law_stock", "_law_account_here"] (spSummed T.C_Book) := ok_summed T
  have hr_law_summed : Room 2 _ := hr.mono (by omega)
  have G_law_account : FnOk P w K mg base CX0 2 T.a_law_account T.fd_law_account ["_law_source_here", "_law_world", "_law_most"] (spAccount T.C_Book) := ok_account T
  have hr_law_account : Room 2 _ := hr.mono (by omega)
  refine ⟨_, ((pss_cons (ps_set (i := 1) sc_law_some_book.nd rfl (Or.inl rfl) (pe_call G_law_pick hr_law_pick rfl T.m_law_pick T.F_law_pick.kp T.b_law_pick .nil pass0 (pa_cons (pv 0) (pa_cons pe_int pa_nil))))
      (pss_cons (ps_if (pt_cmpR op_eq (pv 1) pe_int (nomark _))
        (pss_one (ps_ret (pe_call G_law_any_book hr_law_any_book rfl T.m_law_any_book T.F_law_any_book.kp T.b_law_any_book .nil pass0 (pa_cons (pv 0) (pa_cons pe_int pa_nil)))))
        pss_nil)
      (pss_cons (ps_set (i := 2) sc_law_some_book.nd rfl (Or.inl rfl) (pe_ifExp (pt_cmpR op_lt (pv 1) pe_int (nomark _)) (pe_call G_law_book hr_law_book rfl T.m_law_book T.F_law_book.kp T.b_law_book .nil pass0 (pa_cons (pv 0) (pa_cons pe_int pa_nil))) (pe_call G_law_any_book hr_law_any_book rfl T.m_law_any_book T.F_law_any_book.kp T.b_law_any_book .nil pass0 (pa_cons (pv 0) (pa_cons pe_int pa_nil)))))
      (pss_cons (ps_if (PW.pt (pw_and (pt_cmpR op_gt (pv 1) pe_int (nomark _)) (pw_and1 (pt_cmpR (op_neD hr.units) (pe_dget hu (pv 2) pe_str (fun _ _ => rfl)) (pe_lst pa_nil) (nomark _)))))
        (pss_cons (ps_par (i := 3) (j := 4) (by rfl) sc_law_some_book.nd rfl rfl (by decide) rfl rfl (pa_cons (pe_callB call_len_seq (by rfl) T.n_len (by decide +kernel) (pa_cons (pe_dget hu (pv 2) pe_str (fun _ _ => rfl)) pa_nil)) (pa_cons (pe_lst pa_nil) pa_nil)) (by rfl))
      (pss_cons (ps_for PassesOwn.never rfl (pi_list (pe_slice sl_list (pe_lst (pa_cons pe_str (pa_cons pe_str (pa_cons pe_str pa_nil)))) po_none (po_some (pe_op op_add pe_int (pe_call G_law_pick hr_law_pick rfl T.m_law_pick T.F_law_pick.kp T.b_law_pick .nil pass0 (pa_cons (pv 0) (pa_cons pe_int pa_nil))))))) (pg_name (i := 5) sc_law_some_book.nd rfl (Or.inl rfl))
        (pss_cons (ps_set (i := 6) sc_law_some_book.nd rfl (Or.inl rfl) (pe_call G_law_summed hr_law_summed rfl T.m_law_summed T.F_law_summed.kp T.b_law_summed .nil pass0 (pa_cons (pv 2) (pa_cons (pe_op (op_repAll) (pe_tup (pa_cons pe_int pa_nil)) (pv 3)) (pa_cons (pe_call G_law_account hr_law_account rfl T.m_law_account T.F_law_account.kp T.b_law_account .nil pass0 (pa_cons (pv 0) (pa_cons (pv 2) (pa_cons pe_int pa_nil)))) pa_nil)))))
      (pss_one (ps_if (pt_chain op_lt op_lt (pe_callB (cr_minT rfl) (by rfl) T.n_min (by decide +kernel) (pa_cons (pv 6) pa_nil)) pe_int (pe_callB (cr_maxT rfl) (by rfl) T.n_max (by decide +kernel) (pa_cons (pv 6) pa_nil)))
        (pss_one (ps_expr (pe_bm PySem.F.plainAttrs_list PySem.F.slot_list_append PySem.F.type_list_append mt_append (pv 4) (pa_cons (pe_tup (pa_cons (pv 5) (pa_cons (pv 6) pa_nil))) pa_nil))))
        pss_nil))))
      (pss_one (ps_ret (pe_call G_law_made hr_law_made rfl T.m_law_made T.F_law_made.kp T.b_law_made .nil pass0 (pa_cons (pe_dget hu (pv 2) pe_str (fun _ _ => rfl)) (pa_cons (pe_call G_law_mixed hr_law_mixed rfl T.m_law_mixed T.F_law_mixed.kp T.b_law_mixed .nil pass0 (pa_cons (pv 0) (pa_cons (pe_op op_cat (pe_dget hu (pv 2) pe_str (fun _ _ => rfl)) (pv 4)) pa_nil))) pa_nil)))))))
        pss_nil)
      (pss_one (ps_ret (pv 2)))))))), ?_⟩
  refine ⟨_, rfl, s, c, 4, rfl, hS, by decide, by decide, fun j M1 j0 j1 g1 => ?_⟩
  refine ⟨_, rfl, rfl, _, rfl, iteD (fun _ => ?_) (fun _ => ?_)⟩
  · exact ⟨_, rfl, s, c, 5, rfl, g1.src, by decide, by decide, fun wd gs bs H' g W l1 l2 _ => k wd gs bs H' (g1.trans g) W l1 (by omega)⟩
  refine ⟨_, rfl, _, _, rfl, rfl, _, rfl, iteD (fun _ => ⟨_, rfl, s, c, 7, rfl, g1.src, by decide, by decide, fun wd gs bs M2 g2 W l1 l2 ix => ?_⟩) (fun _ => ⟨_, rfl, s, c, 4, rfl, g1.src, by decide, by decide, fun wd gs bs M2 g2 W l1 l2 ix => ?_⟩)⟩
  all_goals
    have g12 := g1.trans g2
    clear g1 g2
    obtain ⟨g, l, x, ps, ex, WX⟩ := id W
    obtain ⟨_, _, hwd⟩ := cut_at' WX.hw
    obtain ⟨ngs, ngc, hg'⟩ := cut_at' WX.hg
    obtain ⟨nls, nlc, hl'⟩ := cut_at' WX.hl
    have hb' := WX.hb.same cut_same
    have S1 := g12.src
    have gG : DGet M2 wd (.str "goods") (some (.ref g)) := by rw [← w_goods g l x ex]; exact DGet.k (k := Sum.inr "goods") hwd
    have gB : DGet M2 wd (.str "barters") (some (.ref l)) := by rw [← w_barters g l x ex]; exact DGet.k (k := Sum.inr "barters") hwd
    refine ⟨_, rfl, _, _, rfl, rfl, _, rfl, iteD (fun _ => ?_) (fun _ => ⟨_, rfl, k wd gs bs M2 g12 W l1 (by omega)⟩)⟩
    refine ⟨_, rfl, wd, _, rfl, gB, Nat.zero_le _, fun e0 he0 => ?_⟩
    have se := same_new he0 (.lst [])
    refine ⟨_, _, .lst (SqL.of (se _ _ hl')) (dpAll_of (R := BrAt _) (f := brD) (fun p b h => dp_br h) (hb'.same se)), .lst (SqL.of upd_same) .nil, (lay_list fun b hb => lay_br (WX.G.bw b hb).1).shaped (by decide), rfl, _, rfl, ?_⟩
    rw [eqv_nil]
    refine iteN (fun ne => ?_) (fun _ => ⟨_, rfl, k wd gs bs _ (g12.then se) (W.go (Go.of S1 se)) l1 (by omega)⟩)
    have gpos : 0 < gs.length := by
      cases bs with
      | nil => exact absurd rfl ne
      | cons b r =>
        have q := (WX.G.bw b List.mem_cons_self).2
        cases e : b.2 with
        | nil => rw [e] at q; exact absurd q.2 (by decide)
        | cons _ _ => rw [← q.1, e]; exact Nat.succ_pos _
    have S2 := S1.same se
    have g2 : Go s c M2 _ := Go.of S1 se
    generalize L2.upd M2 e0 (.lst []) = M3 at se S2 g2 ⊢
    have W3 := W.go g2
    have gG3 : DGet M3 wd (.str "goods") (some (.ref g)) := by rw [← w_goods g l x ex]; exact DGet.k (k := Sum.inr "goods") (se _ _ hwd)
    refine ⟨_, rfl, wd, _, rfl, gG3, g, _, rfl, .inl (SqL.of (se _ _ hg')), Nat.zero_le _, fun pm hpm => ⟨_, _, rfl, ?_⟩⟩
    rw [List.length_map]
    have npm := S2.ne_none hpm
    have spm := same_new hpm (.lst [])
    have epm := upd_same (H := M3) (a := pm) (o := .lst [])
    have S3 := S2.same spm
    have g3 : Go s c M3 _ := Go.of S2 spm
    generalize L2.upd M3 pm (.lst []) = M4 at spm epm S3 g3 ⊢
    have NM : (["more1", "more2", "more3"] : List Str).map V.str = [.str "more1", .str "more2", .str "more3"] := rfl
    refine ⟨(by show 3 ≤ sizeLine; decide), fun pl hpl => ?_⟩
    have spl := same_new hpl (.lst [.str "more1", .str "more2", .str "more3"])
    have npl := S3.ne_none hpl
    refine ⟨_, rfl, s, c, 3, rfl, S3.same spl, by decide, by decide, fun jm M5 m0 m1 g5 => ⟨_, _, rfl, rfl, ?_⟩⟩
    obtain ⟨jn, rfl⟩ : ∃ jn : Nat, jm = (jn : Int) := ⟨jm.toNat, by omega⟩
    have g35 := g3.trans ((Go.of S3 spl).trans g5)
    have epl : M5 pl = some (.lst ((["more1", "more2", "more3"] : List Str).map V.str)) := g5.lst (S3.same spl) upd_same npl.2
    have epm5 : M5 pm = some (.lst []) := ((Go.of S3 spl).trans g5).lst S3 epm npm.2
    refine ⟨_, rfl, pl, _, rfl, SqL.of epl, fun p1 hp1 => ?_⟩
    have e1j : (1 : Int) + (jn : Int) = ((1 + jn : Nat) : Int) := by omega
    rw [e1j, cutV_lo', ← List.map_take]
    have np1 := g5.src.ne_none hp1
    have n1m : p1 ≠ pm := (ne_of_none epm5 hp1).symm
    have sp1 := same_new hp1 (.lst (((["more1", "more2", "more3"] : List Str).take (1 + jn)).map V.str))
    have ep1 := upd_same (H := M5) (a := p1) (o := .lst (((["more1", "more2", "more3"] : List Str).take (1 + jn)).map V.str))
    have epm6 := sp1 _ _ epm5
    have g36 := g35.then sp1
    generalize L2.upd M5 p1 (.lst (((["more1", "more2", "more3"] : List Str).take (1 + jn)).map V.str)) = M6 at ep1 epm6 g36 ⊢
    have facts := more_facts
    generalize ht : (["more1", "more2", "more3"] : List Str).take (1 + jn) = nms at ep1 ⊢
    have tk : nms.Nodup ∧ nms.length ≤ 3 ∧ ∀ x ∈ nms, wordD (.str x) = true ∧ 100 ≤ idxS x := by
      rw [← ht]
      exact ⟨facts.1.sublist (List.take_sublist _ _), by rw [List.length_take]; exact Nat.min_le_right _ _, fun x hx => facts.2 x (List.mem_of_mem_take hx)⟩
    refine ⟨p1, rfl, ⟨_, SqL.of ep1⟩, for_list (K := K) (a := p1) (xs := nms.map V.str) (fun i σ N => ∃ (v5 v6 : Option V) (mps : List Addr) (ms : List Br), σ = [some (.ref s), some (.int j), some (.ref wd), some (.int (gs.length : Nat)), some (.ref pm), v5, v6] ∧ Go s c M3 N ∧
        N p1 = some (.lst (nms.map V.str)) ∧ N pm = some (.lst (mps.map V.ref)) ∧ BrsAt N mps ms ∧ (ms.map (·.1)).Sublist (nms.take i) ∧ ∀ b ∈ ms, b.2.length = gs.length ∧ mixedB b.2 = true)
      ⟨none, none, [], [], rfl, g36, ep1, epm6, BrsAt.nil, List.nil_sublist _, fun _ h => nomatch h⟩ (fun i σ N _ ⟨_, _, _, _, _, _, z, _⟩ => SqL.of z) (fun i y σ N hy z => ?_) (fun σ N z => ?_)⟩
    · obtain ⟨v5, v6, mps, ms, rfl, gN, e1, em, bM, sub, bo⟩ := z
      obtain ⟨nm, hnm, rfl⟩ := getM hy
      have SN := gN.src
      have WN := W3.go gN
      refine ⟨_, rfl, (by show 1 ≤ sizeLine; decide), fun t ht => ?_⟩
      have st := same_new ht (.tup [.int 0])
      refine ⟨_, rfl, t, gs.length, .int 0, rfl, rfl, upd_same, by omega, fun z N1 sz ez => ?_⟩
      have gz : Go s c N N1 := Go.of SN (st.trans sz)
      refine ⟨_, rfl, _, rfl, s, c, wd, 2, gs, bs, rfl, gz.src, WN.go gz, by decide, fun pa ts N2 ga ea lt bt => ?_⟩
      have g2' := gz.trans ga
      have ezN : N2 z = some (.tup (rowV (List.replicate gs.length 0))) := by
        have q := ga.tup gz.src ez
        rw [q]
        simp [rowV]
      obtain ⟨g', l', x', ps', ex', WX'⟩ := WN.go g2'
      refine ⟨wd, g', l', x', z, pa, ps', ex', gs, bs, List.replicate gs.length 0, ts, rfl, WX'.same cut_same, ezN, List.length_replicate, ea, lt, (fun t h => by have := bt t h; omega), fun pr N3 s3 er => ?_⟩
      have g3' := g2'.then s3
      have lr : (sumR (List.replicate gs.length 0) bs ts).length = gs.length := by
        rw [sum_len fun b m => by rw [List.length_replicate]; exact (WX.G.bw b m).2.1, List.length_replicate]
      generalize sumR (List.replicate gs.length 0) bs ts = row at er lr
      have e1' := g3'.lst SN e1 (np1.2)
      have em' := g3'.lst SN em npm.2
      have skip : ∃ (v5 v6 : Option V) (mps : List Addr) (ms : List Br), ([some (.ref s), some (.int j), some (.ref wd), some (.int (gs.length : Nat)), some (.ref pm), some (.str nm), some (.ref pr)] : L2.St) = [some (.ref s), some (.int j), some (.ref wd), some (.int (gs.length : Nat)), some (.ref pm), v5, v6] ∧ Go s c M3 N3 ∧
          N3 p1 = some (.lst (nms.map V.str)) ∧ N3 pm = some (.lst (mps.map V.ref)) ∧ BrsAt N3 mps ms ∧ (ms.map (·.1)).Sublist (nms.take (i + 1)) ∧ ∀ b ∈ ms, b.2.length = gs.length ∧ mixedB b.2 = true :=
        ⟨_, _, mps, ms, rfl, gN.trans g3', e1', em', bM.kt (KT.go SN g3'), sub.trans (by rw [← take_snoc hnm]; exact List.sublist_append_left _ _), bo⟩
      refine ⟨_, rfl, pr, row, rfl, SqT.of er, by omega, fun mn hmn lmn => ⟨_, _, rfl, rfl, _, rfl, iteD (fun n1 => ⟨_, rfl, pr, row, rfl, SqT.of er, by omega, fun mx hmx lmx => ⟨_, _, rfl, rfl, _, rfl, iteD (fun n2 => ?_) (fun _ => skip)⟩⟩) (fun _ => ⟨_, rfl, iteF skip⟩)⟩⟩
      refine ⟨_, rfl, .inl ⟨rfl, _, SqL.of em'⟩, _, rfl, _, rfl, (by show 2 ≤ sizeLine; decide), fun q hq => ?_⟩
      have sq := same_new hq (.tup [.str nm, .ref pr])
      have em2 := sq _ _ em'
      have lm : mps.length ≤ 3 := by
        rw [bM.1]
        have := sub.length_le
        rw [List.length_map, List.length_take] at this
        have := tk.2.1
        omega
      have kD := KT.upd (o := .lst (mps.map V.ref ++ [.ref q])) em2
      refine ⟨pm, _, _, rfl, rfl, em2, by rw [List.length_map]; exact small1000 (by omega), ?_⟩
      refine ⟨_, _, mps ++ [q], ms ++ [(nm, row)], rfl, go_mut ((gN.trans g3').then sq) hpm npm, by rw [upd_ne n1m]; exact sq _ _ e1', by rw [upd_same, List.map_append]; rfl, BrsAt.snoc (bM.kt ((KT.go SN (g3'.then sq)).trans kD)) ⟨pr, kD _ _ upd_same, kD _ _ (sq _ _ er)⟩, ?_, fun b hb => ?_⟩
      · rw [List.map_append, ← take_snoc hnm]
        exact sub.append (List.Sublist.refl _)
      · rcases List.mem_append.mp hb with h | h
        · exact bo b h
        · rw [List.mem_singleton.mp h]
          exact ⟨lr, mixed_mm hmn n1 hmx n2⟩
    · obtain ⟨v5, v6, mps, ms, rfl, gN, e1, em, bM, sub, bo⟩ := z
      rw [List.length_map, List.take_length] at sub
      have SN := gN.src
      have gG' : DGet N wd (.str "goods") (some (.ref g)) := by
        obtain ⟨gx, lx, xx, px, ex', WX'⟩ := id (W3.go gN)
        rw [← w_goods g l x ex]; exact DGet.k (k := Sum.inr "goods") (cut_same _ _ (cut_go (g2.trans gN) _ _ WX.hw))
      have gB' : DGet N wd (.str "barters") (some (.ref l)) := by rw [← w_barters g l x ex]; exact DGet.k (k := Sum.inr "barters") (cut_same _ _ (cut_go (g2.trans gN) _ _ WX.hw))
      have hlN : N l = some (.lst (ps.map V.ref)) := (g2.trans gN).lst S1 hl' nlc
      have bN : BrsAt N ps bs := hb'.kt (KT.go S1 (g2.trans gN))
      have lps : ps.length = bs.length := WX.hb.1
      have lms : ms.length ≤ 3 := by
        have := sub.length_le
        rw [List.length_map] at this
        have := tk.2.1
        omega
      have lmp : mps.length ≤ 3 := by rw [bM.1]; exact lms
      refine ⟨_, rfl, wd, _, rfl, gG', _, rfl, _, rfl, wd, _, rfl, gB', _, rfl, l, pm, _, _, rfl, rfl, hlN, em, by rw [List.length_map, List.length_map]; exact small (by omega), fun L hL => ?_⟩
      have sL := same_new hL (.lst (ps.map V.ref ++ mps.map V.ref))
      have nL := SN.ne_none hL
      refine ⟨s, c, L, _, rfl, SN.same sL, upd_same, by rw [List.length_append, List.length_map, List.length_map]; omega, fun D ys M7 g7 hD eD pm7 => ?_⟩
      have gF := gN.trans ((Go.of SN sL).trans g7)
      have bA : BrsAt N (ps ++ mps) (bs ++ ms) := brs_append bN bM
      have bA7 : BrsAt M7 (ps ++ mps) (bs ++ ms) := bA.kt (KT.go SN ((Go.of SN sL).trans g7))
      rw [← List.map_append] at pm7
      obtain ⟨ps2, bs2, rfl, a2, p2⟩ := perm_all (R := BrAt M7) pm7 rfl bA7
      have nD := (SN.same sL).ne_none hD
      have nd : (ms.map (·.1)).Nodup := tk.1.sublist sub
      have inN : ∀ b ∈ ms, b.1 ∈ nms := fun b hb => sub.subset (List.mem_map.mpr ⟨b, hb, rfl⟩)
      have G2 := good_more WX.G (fun b hb => (ix.1 b hb).1) (fun b hb => ⟨(tk.2.2 _ (inN b hb)).1, bo b hb⟩) (fun b hb => (tk.2.2 _ (inN b hb)).2) nd (by omega) p2
      have hg7 : M7 g = some (.lst (gs.map V.str)) := (g2.trans gF).lst S1 hg' ngc
      refine ⟨g, D, ps2, gs, bs2, rfl, hg7, eD, a2, G2, fun wd' x' M8 s8 hwd' W' Wc => ?_⟩
      refine k wd' gs bs2 M8 ((g12.trans (g2.trans gF)).then s8) ⟨g, D, x', ps2, [], Wc s c g7.src ngc nD.2⟩ l1 ?_
      rw [p2.length_eq, List.length_append]
      omega
end
end My

namespace My
open PySem PySem.Spec PyProof.Rows L2
theorem sm_small {z : Int} (h : -100 ≤ z ∧ z ≤ 100) : Sm 0 0 (.int z) := by
  have q : ((List.range 201).all fun n => PyData.showable (.int ((n : Int) - 100)) && (PyData.int ((n : Int) - 100)).leavesShort 40) = true := by decide +kernel
  have m := (List.all_eq_true.mp q) (z + 100).toNat (List.mem_range.mpr (by omega))
  have e : (((z + 100).toNat : Nat) : Int) - 100 = z := by omega
  simp only [e, Bool.and_eq_true] at m
  exact ⟨m.1, Nat.zero_le _, m.2, Nat.zero_le _⟩
theorem sm_smalls : ∀ {r : List Int}, (∀ z ∈ r, -100 ≤ z ∧ z ≤ 100) → SmA 0 r.length (r.map PyData.int)
  | [], _ => .nil
  | z :: r, h => by
    refine SmA.up (SmA.cons (sm_small (h z List.mem_cons_self)) (sm_smalls fun y hy => h y (List.mem_cons_of_mem _ hy))) ?_
    rw [List.length_cons]; omega
theorem Sm.lift {k k' b b' : Nat} {ds : List PyData} (h : SmA k b ds) (hk : k ≤ k') (hb : b ≤ b') : SmA k' b' ds := ⟨h.sh, Nat.le_trans h.dp hk, h.lf, Nat.le_trans h.bk hb⟩
theorem SmA.append {k b b' : Nat} : ∀ {ds es : List PyData}, SmA k b ds → SmA k b' es → SmA k (b + b') (ds ++ es)
  | [], _, h, t => t.up (by omega)
  | d :: ds, es, h, t => by
    have h1 : d.showable = true ∧ PyData.showableAll ds = true := Bool.and_eq_true_iff.mp h.sh
    have h2 : max d.depth (PyData.depthAll ds) ≤ k := h.dp
    have h3 : d.leavesShort 40 = true ∧ PyData.leavesShortAll 40 ds = true := Bool.and_eq_true_iff.mp h.lf
    have h4 : d.bulk + 1 + PyData.bulkAll ds ≤ b := h.bk
    have a : Sm k d.bulk d := ⟨h1.1, by omega, h3.1, Nat.le_refl _⟩
    have r : SmA k (PyData.bulkAll ds) ds := ⟨h1.2, by omega, h3.2, Nat.le_refl _⟩
    exact (SmA.cons a (SmA.append r t)).up (by omega)
/-- a value near an account, the list at L being put together -/
def NearL (s c L : Addr) (N : Hp) (v : V) : Prop := ∃ d, Dq (cutH L L (cutH s c N)) v d ∧ Sm 3 500 d ∧ BigD d
theorem NearL.same {s c L : Addr} {N N' : Hp} {v : V} (e : Same N N') (h : NearL s c L N v) : NearL s c L N' v := by
  obtain ⟨d, a, b⟩ := h
  exact ⟨d, a.same (cut_of (cut_of e)), b⟩
theorem cut_mut {s c L : Addr} {N : Hp} {o : HO} : cutH L L (cutH s c (L2.upd N L o)) = cutH L L (cutH s c N) := by
  funext b
  show (if b = L ∨ b = L then none else cutH s c (L2.upd N L o) b) = (if b = L ∨ b = L then none else cutH s c N b)
  by_cases h : b = L
  · rw [if_pos (.inl h), if_pos (.inl h)]
  · rw [if_neg (fun z => h (z.elim id id)), if_neg (fun z => h (z.elim id id))]
    unfold cutH
    rw [upd_ne h]
theorem cut_up {s c L : Addr} {B N : Hp} (g : Go s c B N) (hL : B L = none) : Same (cutH s c B) (cutH L L (cutH s c N)) := fun b u h => by
  have ⟨n1, n2, e⟩ := cut_at' h
  have nL : b ≠ L := ne_of_none e hL
  exact cut_in ⟨nL, nL⟩ (cut_in ⟨n1, n2⟩ (g.keep _ _ n1 n2 e))
theorem near_tup {s c L p : Addr} {N : Hp} {xs : List V} {ds : List PyData} (n : p ≠ s ∧ p ≠ c) (nL : p ≠ L) (e : N p = some (.tup xs)) (h : DqAll (cutH L L (cutH s c N)) xs ds) (sm : SmA 2 500 ds) (bg : ∀ x ∈ ds, -(10 ^ 40) < intD x ∧ intD x < 10 ^ 40) : NearL s c L N (.ref p) :=
  ⟨.tuple ds, .tup (cut_in ⟨nL, nL⟩ (cut_in n e)) h, sm.tuple, bg⟩
theorem near_mut {s c L : Addr} {N : Hp} {o : HO} {v : V} (h : NearL s c L N v) : NearL s c L (L2.upd N L o) v := by
  obtain ⟨d, a, b⟩ := h
  exact ⟨d, by rw [cut_mut]; exact a, b⟩
theorem cut_ints (as : List Int) (lo hi : Option Int) : ∃ zs : List Int, cutV (as.map V.int) lo hi = zs.map V.int ∧ zs.length ≤ as.length ∧ ∀ z ∈ zs, z ∈ as := by
  refine ⟨(as.drop (HT.sIx (as.map V.int).length 0 lo)).take (HT.sIx (as.map V.int).length (as.map V.int).length hi - HT.sIx (as.map V.int).length 0 lo), ?_, ?_, fun z hz => List.mem_of_mem_drop (List.mem_of_mem_take hz)⟩
  · unfold cutV
    rw [List.map_take, List.map_drop]
  · rw [List.length_take, List.length_drop]; omega
theorem dq_bools {H : Hp} {f : Int → Bool} : ∀ ns : List Int, DqAll H (ns.map fun n => V.bl (f n)) (ns.map fun n => PyData.bool (f n))
  | [] => .nil
  | n :: ns => .cons (.bl _) (dq_bools ns)
theorem sm_bools {f : Int → Bool} : ∀ ns : List Int, SmA 0 ns.length (ns.map fun n => PyData.bool (f n))
  | [] => .nil
  | n :: ns => by
    refine SmA.up (SmA.cons (⟨rfl, Nat.zero_le _, rfl, Nat.zero_le _⟩ : Sm 0 0 (PyData.bool (f n))) (sm_bools ns)) ?_
    rw [List.length_cons]; omega
/-- something put into an account -/
def OneL (s c L : Addr) (N : Hp) (v : V) : Prop := ∃ d, Dq (cutH L L (cutH s c N)) v d ∧ Sm 2 100 d ∧ -(10 ^ 40) < intD d ∧ intD d < 10 ^ 40
theorem OneL.same {s c L : Addr} {N N' : Hp} {v : V} (e : Same N N') (h : OneL s c L N v) : OneL s c L N' v := by
  obtain ⟨d, a, b⟩ := h
  exact ⟨d, a.same (cut_of (cut_of e)), b⟩
theorem one_mut {s c L : Addr} {N : Hp} {o : HO} {v : V} (h : OneL s c L N v) : OneL s c L (L2.upd N L o) v := by
  obtain ⟨d, a, b⟩ := h
  exact ⟨d, by rw [cut_mut]; exact a, b⟩
section
variable {K : PySem.W.Frag} {H : Hp} {a b : Addr} {xs ys : List V} {lo hi : Option Int} {Q : VK}
theorem cutV_all (xs : List V) (w : HT.sIx xs.length 0 lo = 0 ∧ HT.sIx xs.length xs.length hi = xs.length) : cutV xs lo hi = xs := by
  unfold cutV
  rw [w.1, w.2, List.drop_zero, Nat.sub_zero, List.take_length]
theorem sl_any (h : H a = some (.tup xs)) (k : ∀ (p : Addr) (H' : Hp), Same H H' → H' p = some (.tup (cutV xs lo hi)) → Q (.ref p) H') : rSlA K (.ref a) lo hi H Q :=
  ⟨a, xs, rfl, SqT.of h, fun w => k a H (fun _ _ e => e) (by rw [cutV_all xs w]; exact h), fun _ p hp => k p _ (same_new hp _) upd_same⟩
theorem cat_any (h : H a = some (.tup xs)) (h2 : H b = some (.tup ys)) (l : xs.length + ys.length ≤ 1000) (k : ∀ (p : Addr) (H' : Hp), Same H H' → H' p = some (.tup (xs ++ ys)) → Q (.ref p) H') : rCatA K (.ref a) (.ref b) H Q :=
  ⟨a, b, xs, ys, rfl, rfl, SqT.of h, SqT.of h2, small l, fun e => k b H (fun _ _ e => e) (by rw [e]; exact h2), fun _ e => k a H (fun _ _ e => e) (by rw [e, List.append_nil]; exact h), fun _ _ p hp => k p _ (same_new hp _) upd_same⟩
end
theorem dq_app {H : Hp} : ∀ {xs ys : List V} {ds es : List PyData}, DqAll H xs ds → DqAll H ys es → DqAll H (xs ++ ys) (ds ++ es)
  | _, _, _, _, .nil, h => h
  | _, _, _, _, .cons a t, h => .cons a (dq_app t h)
theorem big_app {ds es : List PyData} (h1 : ∀ x ∈ ds, -(10 ^ 40) < intD x ∧ intD x < 10 ^ 40) (h2 : ∀ x ∈ es, -(10 ^ 40) < intD x ∧ intD x < 10 ^ 40) : ∀ x ∈ ds ++ es, -(10 ^ 40) < intD x ∧ intD x < 10 ^ 40 := fun x hx => (List.mem_append.mp hx).elim (h1 x) (h2 x)
theorem big_ints {ns : List Int} (h : ∀ z ∈ ns, -100 ≤ z ∧ z ≤ 100) : ∀ x ∈ ns.map PyData.int, -(10 ^ 40) < intD x ∧ intD x < 10 ^ 40 := fun x hx => by
  obtain ⟨z, hz, rfl⟩ := List.mem_map.mp hx
  have := h z hz
  show -(10 ^ 40) < z ∧ z < 10 ^ 40
  omega
/-- an account's part, something, an account's part -/
theorem near_mix {s c L p : Addr} {N : Hp} {as bs : List Int} {vs : List V} {ds : List PyData} (n : p ≠ s ∧ p ≠ c) (nL : p ≠ L) (e : N p = some (.tup (as.map V.int ++ vs ++ bs.map V.int))) (h : DqAll (cutH L L (cutH s c N)) vs ds) (sa : ∀ z ∈ as, -100 ≤ z ∧ z ≤ 100) (sb : ∀ z ∈ bs, -100 ≤ z ∧ z ≤ 100)
    (la : as.length ≤ 50) (lb : bs.length ≤ 50) (sm : SmA 2 300 ds) (bg : ∀ x ∈ ds, -(10 ^ 40) < intD x ∧ intD x < 10 ^ 40) : NearL s c L N (.ref p) := by
  refine near_tup (ds := as.map PyData.int ++ ds ++ bs.map PyData.int) n nL e (dq_app (dq_app (dq_ints as) h) (dq_ints bs)) ?_ (big_app (big_app (big_ints sa) bg) (big_ints sb))
  have h1 := Sm.lift (sm_smalls sa) (Nat.zero_le 2) (Nat.le_refl _)
  have h2 := Sm.lift (sm_smalls sb) (Nat.zero_le 2) (Nat.le_refl _)
  exact ((h1.append sm).append h2).up (by omega)
theorem near_one {s c L p : Addr} {N : Hp} {as bs : List Int} {v : V} (n : p ≠ s ∧ p ≠ c) (nL : p ≠ L) (e : N p = some (.tup (as.map V.int ++ [v] ++ bs.map V.int))) (h : OneL s c L N v) (sa : ∀ z ∈ as, -100 ≤ z ∧ z ≤ 100) (sb : ∀ z ∈ bs, -100 ≤ z ∧ z ≤ 100) (la : as.length ≤ 50) (lb : bs.length ≤ 50) : NearL s c L N (.ref p) := by
  obtain ⟨d, dq, sm, b1, b2⟩ := h
  exact near_mix n nL e (.cons dq .nil) sa sb la lb ((SmA.cons sm (SmA.nil : SmA 2 0 [])).up (by omega)) fun x hx => by
    rw [List.mem_singleton.mp hx]; exact ⟨b1, b2⟩
theorem near_two {s c L p : Addr} {N : Hp} {as bs : List Int} {v : V} (n : p ≠ s ∧ p ≠ c) (nL : p ≠ L) (e : N p = some (.tup (as.map V.int ++ [v, v] ++ bs.map V.int))) (h : OneL s c L N v) (sa : ∀ z ∈ as, -100 ≤ z ∧ z ≤ 100) (sb : ∀ z ∈ bs, -100 ≤ z ∧ z ≤ 100) (la : as.length ≤ 50) (lb : bs.length ≤ 50) : NearL s c L N (.ref p) := by
  obtain ⟨d, dq, sm, b1, b2⟩ := h
  exact near_mix n nL e (.cons dq (.cons dq .nil)) sa sb la lb ((SmA.cons sm (SmA.cons sm (SmA.nil : SmA 2 0 []))).up (by omega)) fun x hx => by
    simp only [List.mem_cons, List.not_mem_nil, or_false] at hx
    rcases hx with rfl | rfl <;> exact ⟨b1, b2⟩
theorem step_rev {n : Nat} (h : n ≤ 20) : (stepAt n none none (-1)).length ≤ n := by
  have q : ∀ k : Fin 21, (stepAt k.val none none (-1)).length ≤ k.val := by decide +kernel
  exact q ⟨n, by omega⟩
theorem step_map {α : Type} {f : α → V} {xs : List α} {lo hi : Option Int} {st : Int} : stepV (xs.map f) lo hi st = (stepV xs lo hi st).map f := by
  unfold stepV
  rw [List.length_map, List.map_filterMap]
  congr 1
  funext i
  rw [List.getElem?_map]
theorem step_mem {α : Type} {xs : List α} {lo hi : Option Int} {st : Int} {x : α} (h : x ∈ stepV xs lo hi st) : x ∈ xs := by
  obtain ⟨i, _, e⟩ := List.mem_filterMap.mp h
  exact List.mem_of_getElem? e
/-- near accounts, as the list at L grows -/
def NearI (s c L : Addr) (B N : Hp) (n : Nat) : Prop := Src N s c ∧ (∀ b u, b ≠ L → B b = some u → N b = some u) ∧ ∃ vs, N L = some (.lst vs) ∧ vs.length ≤ n ∧ ∀ v ∈ vs, NearL s c L N v
theorem NearI.one {s c L : Addr} {B N : Hp} {n : Nat} {v : V} (z : NearI s c L B N n) (h : OneL s c L B v) : OneL s c L N v := by
  obtain ⟨d, a, b⟩ := h
  refine ⟨d, a.same fun x u e => ?_, b⟩
  have ⟨n1, _, e1⟩ := cut_at' e
  have ⟨n2, n3, e2⟩ := cut_at' e1
  exact cut_in ⟨n1, n1⟩ (cut_in ⟨n2, n3⟩ (z.2.1 _ _ n1 e2))
theorem NearI.same {s c L : Addr} {B N N' : Hp} {n : Nat} (z : NearI s c L B N n) (e : Same N N') : NearI s c L B N' n := by
  obtain ⟨S, k, vs, a, l, h⟩ := z
  exact ⟨S.same e, fun b u nb q => e _ _ (k b u nb q), vs, e _ _ a, l, fun v hv => (h v hv).same e⟩
theorem NearI.add {s c L : Addr} {B N : Hp} {n : Nat} {v : V} (nL : L ≠ s ∧ L ≠ c) (z : NearI s c L B N n) (h : NearL s c L N v) : ∃ vs, N L = some (.lst vs) ∧ vs.length ≤ n ∧ NearI s c L B (L2.upd N L (.lst (vs ++ [v]))) (n + 1) := by
  obtain ⟨S, k, vs, a, l, q⟩ := z
  refine ⟨vs, a, l, S.upd6 nL, fun b u nb e => by rw [upd_ne nb]; exact k b u nb e, vs ++ [v], upd_same, by rw [List.length_append]; show vs.length + 1 ≤ n + 1; omega, fun x hx => ?_⟩
  rcases List.mem_append.mp hx with m | m
  · exact near_mut (q x m)
  · rw [List.mem_singleton.mp m]; exact near_mut h
theorem NearI.re {s c L : Addr} {B N : Hp} {n : Nat} (z : NearI s c L B N n) : NearI s c L N N n := ⟨z.1, fun _ _ _ e => e, z.2.2⟩
theorem NearI.trans {s c L : Addr} {A B N : Hp} {m n : Nat} (y : NearI s c L A B m) (z : NearI s c L B N n) : NearI s c L A N n := ⟨z.1, fun b u nb e => z.2.1 b u nb (y.2.1 b u nb e), z.2.2⟩
theorem near_new {s c L D : Addr} {N N' : Hp} {v : V} (h : NearL s c L N v) (e : Same N N') (hD : N D = none) : NearL s c D N' v := by
  obtain ⟨d, a, b⟩ := h
  refine ⟨d, a.same fun x u q => ?_, b⟩
  have ⟨_, _, e1⟩ := cut_at' q
  have ⟨n2, n3, e2⟩ := cut_at' e1
  have n4 := ne_of_none e2 hD
  exact cut_in ⟨n4, n4⟩ (cut_in ⟨n2, n3⟩ (e _ _ e2))
def spNearA (C : Addr) : Sp := fun vs H Q _ => ∃ (s c wd a : Addr) (as : List Int), vs = [.ref s, .ref wd, .ref a] ∧ Src H s c ∧ H a = some (.tup (as.map V.int)) ∧ as.length ≤ 20 ∧ (∀ z ∈ as, -50 ≤ z ∧ z ≤ 50) ∧
  ∀ (D : Addr) (vs' : List V) (H' : Hp), Go s c H H' → H D = none → H' D = some (.lst vs') → vs'.length ≤ 100 → (∀ v ∈ vs', NearL s c D H' v) → Q (.ref D) H'
section
variable {P : Program} {w : World} {K : PySem.W.Frag} {mg : Str → Option Value} {base : Heap}
theorem ok_near (T : Tx K mg) : FnOk P w K mg base CX0 4 T.a_law_near_accounts T.fd_law_near_accounts ["_law_source_here", "_law_world", "_law_account_here"] (spNearA T.C_Book) := by
  refine T.F_law_near_accounts.ok sc_law_near_accounts (fun vs H Q E h => ?_) (fun cdv A outer st H vs Q E hr h => ?_)
  · obtain ⟨s, c, wd, a, as, rfl, _⟩ := h
    rfl
  obtain ⟨s, c, wd, a, as, rfl, hS, ha, la, sa, k⟩ := h
  have G_law_pick : FnOk P w K mg base CX0 1 T.a_law_pick T.fd_law_pick ["_law_source_here", "_law_many"] spPick2 := ok_pick2 T
  have hr_law_pick : Room 1 _ := hr.mono (by omega)
  have G_law_odd : FnOk P w K mg base CX0 3 T.a_law_odd T.fd_law_odd ["_law_source_here"] spOddQ := ok_odd T
  have hr_law_odd : Room 3 _ := hr
  refine ⟨_, ((pss_cons (ps_par (i := 3) (j := 4) (by rfl) sc_law_near_accounts.nd rfl rfl (by decide) rfl rfl (pa_cons (pe_call G_law_odd hr_law_odd rfl T.m_law_odd T.F_law_odd.kp T.b_law_odd .nil pass0 (pa_cons (pv 0) pa_nil)) (pa_cons (pe_callB call_len_seq (by rfl) T.n_len (by decide +kernel) (pa_cons (pv 2) pa_nil)) pa_nil)) (by rfl))
      (pss_cons (ps_set (i := 5) sc_law_near_accounts.nd rfl (Or.inl rfl) (pe_call G_law_pick hr_law_pick rfl T.m_law_pick T.F_law_pick.kp T.b_law_pick .nil pass0 (pa_cons (pv 0) (pa_cons (pv 4) pa_nil))))
      (pss_cons (ps_set (i := 6) sc_law_near_accounts.nd rfl (Or.inl rfl) (pe_lst (pa_cons (pv 2) (pa_cons (pe_callTy call_list_ofN (by rfl) T.n_list (by decide +kernel) (pa_cons (pv 2) pa_nil)) (pa_cons (pe_op op_catA (pv 2) (pe_tup (pa_cons pe_int pa_nil))) (pa_cons (pe_slice (show SlR _ (rSlA K) from sl_tupA) (pv 2) (po_some pe_int) po_none) (pa_cons (pe_stpT true (pv 2) po_none po_none (po_some (pe_un un_neg pe_int))) (pa_cons (pe_callTy call_tuple_of (by rfl) T.n_tuple (by decide +kernel) (pa_cons (pe_lc (own := [("_law_one", 7)]) (by rfl) sc_law_near_accounts.nd (pi_tup (pv 2)) (blkOk_by (own := [("_law_one", 7)]) (N := ["_law_source_here", "_law_world", "_law_account_here", "_law_odd_here", "_law_many", "_law_k", "_law_found", "_law_one"]) (sc := defScope s_law_near_accounts) (by decide +kernel)) (fun _ _ _ _ _ => pg_name (i := 7) sc_law_near_accounts.nd rfl (Or.inl rfl)) (fun _ _ _ _ _ => pts_nil) (fun _ _ _ _ _ => (pe_op op_sub pe_int (pv 7)))) pa_nil)) (pa_cons (pv 3) (pa_cons pe_non (pa_cons (pe_op (op_repAll) (pe_tup (pa_cons pe_int pa_nil)) (pv 4)) pa_nil)))))))))))
      (pss_cons (ps_expr (pe_bm PySem.F.plainAttrs_list PySem.F.slot_list_append PySem.F.type_list_append mt_append (pv 6) (pa_cons (pe_callTy call_tuple_of (by rfl) T.n_tuple (by decide +kernel) (pa_cons (pe_lc (own := [("_law_one", 7)]) (by rfl) sc_law_near_accounts.nd (pi_tup (pv 2)) (blkOk_by (own := [("_law_one", 7)]) (N := ["_law_source_here", "_law_world", "_law_account_here", "_law_odd_here", "_law_many", "_law_k", "_law_found", "_law_one"]) (sc := defScope s_law_near_accounts) (by decide +kernel)) (fun _ _ _ _ _ => pg_name (i := 7) sc_law_near_accounts.nd rfl (Or.inl rfl)) (fun _ _ _ _ _ => pts_nil) (fun _ _ _ _ _ => (pe_callTy call_bool1 (by rfl) T.n_bool (by decide +kernel) (pa_cons (pv 7) pa_nil)))) pa_nil)) pa_nil)))
      (pss_cons (ps_for PassesOwn.never rfl (pi_list (pe_lst (pa_cons (pv 3) (pa_cons pe_non (pa_cons pe_bl (pa_cons pe_str (pa_cons (pe_op op_pow pe_int pe_int) (pa_cons (pe_lstN pa_nil) (pa_cons pe_int (pa_cons (pe_un un_neg pe_int) pa_nil)))))))))) (pg_name (i := 7) sc_law_near_accounts.nd rfl (Or.inl rfl))
        (pss_one (ps_expr (pe_bm PySem.F.plainAttrs_list PySem.F.slot_list_append PySem.F.type_list_append mt_append (pv 6) (pa_cons (pe_op op_catA (pe_op op_catA (pe_slice (show SlR _ (rSlA K) from sl_tupA) (pv 2) po_none (po_some (pv 5))) (pe_tup (pa_cons (pv 7) pa_nil))) (pe_slice (show SlR _ (rSlA K) from sl_tupA) (pv 2) (po_some (pe_op op_add (pv 5) pe_int)) po_none)) pa_nil)))))
      (pss_one (ps_ret (pe_op op_cat (pv 6) (pe_lst (pa_cons (pe_op op_catA (pe_op op_catA (pe_slice (show SlR _ (rSlA K) from sl_tupA) (pv 2) po_none (po_some (pv 5))) (pe_tup (pa_cons (pv 3) (pa_cons (pv 3) pa_nil)))) (pe_slice (show SlR _ (rSlA K) from sl_tupA) (pv 2) (po_some (pe_op op_add (pv 5) pe_int)) po_none)) pa_nil))))))))))), ?_⟩
  refine ⟨_, rfl, s, c, rfl, hS, fun vo M1 oq g1 => ⟨_, rfl, a, _, rfl, .inr (SqT.of (g1.tup hS ha)), ⟨_, _, rfl, ?_⟩⟩⟩
  rw [List.length_map]
  refine ⟨_, rfl, _, rfl, s, c, as.length, rfl, g1.src, by omega, fun kn M2 hk g2 => ?_⟩
  have oq := oq.go g2
  have g12 := g1.trans g2
  have ha2 := g12.tup hS ha
  have S2 := g2.src
  have fs : ∀ z ∈ as, -100 ≤ z ∧ z ≤ 100 := fun z hz => by have := sa z hz; omega
  -- the list of some
  refine ⟨_, rfl, _, rfl, a, _, rfl, .inr (SqT.of ha2), fun l1 hl1 b1 => ?_⟩
  have s1 := same_new hl1 (.lst (as.map V.int))
  have el1 := upd_same (H := M2) (a := l1) (o := .lst (as.map V.int))
  have nl1 := S2.ne_none hl1
  generalize L2.upd M2 l1 (.lst (as.map V.int)) = N1 at s1 el1 ⊢
  have ha3 := s1 _ _ ha2
  refine ⟨_, rfl, (by show 1 ≤ sizeLine; decide), fun t1 ht1 => ?_⟩
  have s2 := same_new ht1 (.tup [.int 0])
  refine cat_any (s2 _ _ ha3) upd_same (by rw [List.length_map]; show as.length + 1 ≤ 1000; omega) fun p3 N3 s3 e3 => ?_
  have s03 := s1.trans (s2.trans s3)
  refine ⟨_, rfl, 1, rfl, ?_⟩
  simp only [tNoPart]
  refine sl_any (s03 _ _ ha2) fun p4 N4 s4 e4 => ?_
  have s04 := s03.trans s4
  refine ⟨_, rfl, 1, rfl, -1, rfl, a, _, -1, rfl, rfl, SqT.of (s04 _ _ ha2), by decide, by decide, ?_, fun p5 hp5 => ?_⟩
  · rw [List.length_map]
    exact small (Nat.le_trans (step_rev la) (by omega))
  rw [step_map]
  have s5 := same_new hp5 (.tup ((stepV as none none (-1)).map V.int))
  have e5 := upd_same (H := N4) (a := p5) (o := .tup ((stepV as none none (-1)).map V.int))
  have n5 : N4 p5 = none := hp5
  generalize L2.upd N4 p5 (.tup ((stepV as none none (-1)).map V.int)) = N5 at s5 e5 ⊢
  have s05 := s04.trans s5
  have ha5 := s05 _ _ ha2
  refine ⟨_, rfl, a, rfl, ⟨_, SqT.of ha5⟩, fun D hD => ?_⟩
  refine lc_tup (xs := as.map V.int) (Lc N5 D ((as.map fun t => 0 - t).map V.int)) (Lc.zero hD) (fun i M _ z => SqT.of (z.1 _ _ ha5)) (fun i y M hy z => ?_) (fun M z => ?_)
  · obtain ⟨t, ht, rfl⟩ := getM hy
    refine ⟨rfl, _, rfl, _, _, rfl, rfl, ?_⟩
    exact Lc.lay hD z (mapM (mapM ht)) (by rw [List.length_map, List.length_map]; omega)
  obtain ⟨sM, eM⟩ := z.all (by rw [List.length_map, List.length_map, List.length_map])
  refine ⟨D, _, rfl, .inl ⟨SqL.of eM, fun p6 hp6 => ?_⟩⟩
  have s6 := same_new hp6 (.tup ((as.map fun t => 0 - t).map V.int))
  have e6 := upd_same (H := M) (a := p6) (o := .tup ((as.map fun t => 0 - t).map V.int))
  generalize L2.upd M p6 (.tup ((as.map fun t => 0 - t).map V.int)) = N6 at s6 e6 ⊢
  refine ⟨_, rfl, (by show 1 ≤ sizeLine; decide), fun t2 ht2 => ?_⟩
  have st2 := same_new ht2 (.tup [.int 0])
  refine ⟨_, rfl, t2, as.length, .int 0, rfl, rfl, upd_same, by omega, fun p9 N9 s9 e9 => ?_⟩
  have s69 := st2.trans s9
  have s59 := sM.trans (s6.trans s69)
  have s49 := s5.trans s59
  have s39 := s4.trans s49
  have s19 := (s2.trans s3).trans s39
  refine ⟨(by show 9 ≤ sizeLine; decide), fun L hL => ?_⟩
  have sL := same_new hL (.lst [.ref a, .ref l1, .ref p3, .ref p4, .ref p5, .ref p6, vo, .non, .ref p9])
  have eL := upd_same (H := N9) (a := L) (o := .lst [.ref a, .ref l1, .ref p3, .ref p4, .ref p5, .ref p6, vo, .non, .ref p9])
  have g29 : Go s c M2 N9 := Go.of S2 (s1.trans s19)
  have S9 := g29.src
  have nL := S9.ne_none hL
  have gH9 := g12.trans g29
  have hL0 : H L = none := gH9.free hL
  have ge : Go s c N9 _ := Go.of S9 sL
  have cu : Same (cutH s c N9) (cutH L L (cutH s c (L2.upd N9 L (.lst [.ref a, .ref l1, .ref p3, .ref p4, .ref p5, .ref p6, vo, .non, .ref p9])))) := cut_up ge hL
  have tupN : ∀ {p : Addr} {xs : List V}, N9 p = some (.tup xs) → (p ≠ s ∧ p ≠ c) ∧ p ≠ L := fun {p xs} e => ⟨S9.ne_tup e, ne_of_none e hL⟩
  have nt : ∀ {p : Addr} {zs : List Int}, N9 p = some (.tup (zs.map V.int)) → zs.length ≤ 50 → (∀ z ∈ zs, -100 ≤ z ∧ z ≤ 100) → NearL s c L (L2.upd N9 L (.lst [.ref a, .ref l1, .ref p3, .ref p4, .ref p5, .ref p6, vo, .non, .ref p9])) (.ref p) := fun {p zs} e l h =>
    near_mix (as := zs) (bs := []) (vs := []) (ds := []) (tupN e).1 (tupN e).2 (by rw [List.append_nil, List.map_nil, List.append_nil]; exact sL _ _ e) .nil h (fun _ h => nomatch h) l (Nat.zero_le _) (SmA.nil.up (Nat.zero_le _)) (fun _ h => nomatch h)
  have ha9 := s19 _ _ (s1 _ _ ha2)
  have oneO : OneL s c L (L2.upd N9 L (.lst [.ref a, .ref l1, .ref p3, .ref p4, .ref p5, .ref p6, vo, .non, .ref p9])) vo ∧ NearL s c L (L2.upd N9 L (.lst [.ref a, .ref l1, .ref p3, .ref p4, .ref p5, .ref p6, vo, .non, .ref p9])) vo := by
    obtain ⟨d, dq, _, _, sm, bg, bi⟩ := oq
    have q := dq.same ((cut_go g29).trans cu)
    exact ⟨⟨d, q, ⟨sm.sh, sm.dp, sm.lf, Nat.le_trans sm.bk (by decide)⟩, bi⟩, ⟨d, q, ⟨sm.sh, Nat.le_trans sm.dp (by decide), sm.lf, Nat.le_trans sm.bk (by decide)⟩, bg⟩⟩
  obtain ⟨z4, c4, lz4, m4⟩ := cut_ints as (some 1) none
  rw [c4] at e4
  have near0 : ∀ v ∈ ([.ref a, .ref l1, .ref p3, .ref p4, .ref p5, .ref p6, vo, .non, .ref p9] : List V), NearL s c L (L2.upd N9 L (.lst [.ref a, .ref l1, .ref p3, .ref p4, .ref p5, .ref p6, vo, .non, .ref p9])) v := by
    refine forall_cons (nt ha9 (by omega) fs) (forall_cons ?_ (forall_cons ?_ (forall_cons (nt (s49 _ _ e4) (by omega) fun z hz => fs z (m4 z hz)) (forall_cons (nt (s59 _ _ e5) ?_ fun z hz => fs z (step_mem hz)) (forall_cons (nt (s69 _ _ e6) (by rw [List.length_map]; omega) ?_) (forall_cons oneO.2 (forall_cons ⟨_, .non, .non, big_no rfl⟩ (forall_cons ?_ forall_nil))))))))
    · have e := sL _ _ (s19 _ _ el1)
      have n1 := ne_of_none (s19 _ _ el1) hL
      refine ⟨.list (as.map PyData.int), .lst (cut_in ⟨n1, n1⟩ (cut_in nl1 e)) b1 (dq_ints as), (Sm.lift (sm_smalls fs) (Nat.zero_le 2) (by omega : as.length ≤ 500)).list, big_ints fs⟩
    · have e : N9 p3 = some (.tup ((as ++ [0]).map V.int)) := by rw [List.map_append]; exact s39 _ _ e3
      refine nt e (by rw [List.length_append]; show as.length + 1 ≤ 50; omega) fun z hz => ?_
      rcases List.mem_append.mp hz with h | h
      · exact fs z h
      · rw [List.mem_singleton.mp h]; decide
    · exact Nat.le_trans (Nat.le_trans (filter_le as _) (step_rev la)) (by omega)
    · intro z hz
      obtain ⟨t, ht, rfl⟩ := List.mem_map.mp hz
      have := fs t ht
      omega
    · have e : N9 p9 = some (.tup ((List.replicate as.length (0 : Int)).map V.int)) := by rw [e9, List.map_replicate]
      refine nt e (by rw [List.length_replicate]; omega) fun z hz => ?_
      rw [List.eq_of_mem_replicate hz]; decide
  have haF := sL _ _ ha9
  have oneO := oneO.1
  have lv0 : ([.ref a, .ref l1, .ref p3, .ref p4, .ref p5, .ref p6, vo, .non, .ref p9] : List V).length ≤ 9 := Nat.le_refl _
  have z0 : NearI s c L (L2.upd N9 L (.lst [.ref a, .ref l1, .ref p3, .ref p4, .ref p5, .ref p6, vo, .non, .ref p9])) (L2.upd N9 L (.lst [.ref a, .ref l1, .ref p3, .ref p4, .ref p5, .ref p6, vo, .non, .ref p9])) 9 := ⟨ge.src, fun _ _ _ e => e, _, eL, lv0, near0⟩
  generalize hF : L2.upd N9 L (.lst [.ref a, .ref l1, .ref p3, .ref p4, .ref p5, .ref p6, vo, .non, .ref p9]) = F0 at *
  generalize ([.ref a, .ref l1, .ref p3, .ref p4, .ref p5, .ref p6, vo, .non, .ref p9] : List V) = v0 at *
  have naL : a ≠ L := ne_of_none ha9 hL
  clear nt near0 tupN
  -- the account of truth values
  refine ⟨_, rfl, .inl ⟨rfl, _, SqL.of eL⟩, _, rfl, a, rfl, ⟨_, SqT.of haF⟩, fun D2 hD2 => ?_⟩
  refine lc_tup (xs := as.map V.int) (Lc F0 D2 (as.map fun t => V.bl (t != 0))) (Lc.zero hD2) (fun i M _ z => SqT.of (z.1 _ _ haF)) (fun i y M hy z => ?_) (fun M5 z => ?_)
  · obtain ⟨t, ht, rfl⟩ := getM hy
    refine ⟨rfl, _, rfl, .inl ⟨t, rfl, ?_⟩⟩
    exact Lc.lay hD2 z (mapM ht) (by rw [List.length_map]; omega)
  obtain ⟨sM5, eM5⟩ := z.all (by rw [List.length_map, List.length_map])
  refine ⟨D2, _, rfl, .inl ⟨SqL.of eM5, fun q1 hq1 => ?_⟩⟩
  have sq1 := same_new hq1 (.tup (as.map fun t => V.bl (t != 0)))
  have eq1 := upd_same (H := M5) (a := q1) (o := .tup (as.map fun t => V.bl (t != 0)))
  have z1 := (z0.same sM5).same sq1
  have nq1 := (z0.same sM5).1.ne_none hq1
  have nq1L : q1 ≠ L := fun e => by
    rw [e, sM5 _ _ eL] at hq1; cases hq1
  obtain ⟨vs1, ev1, lv1, z2⟩ := z1.add nL (near_tup nq1 nq1L eq1 (dq_bools as) ((Sm.lift (sm_bools as) (Nat.zero_le 2) (by omega : as.length ≤ 500))) (fun x hx => by obtain ⟨_, _, rfl⟩ := List.mem_map.mp hx; exact ⟨zlo, zhi⟩))
  refine ⟨L, _, _, rfl, rfl, ev1, small (by omega), ?_⟩
  generalize L2.upd (L2.upd M5 q1 (.tup (as.map fun t => V.bl (t != 0)))) L (.lst (vs1 ++ [.ref q1])) = F1 at z2 ⊢
  clear sM5 eM5 sq1 eq1 z1 nq1 nq1L ev1 hq1
  -- the items put in
  refine ⟨_, rfl, _, _, rfl, rfl, ⟨by decide, by decide, by decide⟩, Nat.zero_le _, fun e0 he0 big0 => ⟨_, rfl, (by show 8 ≤ sizeLine; decide), fun I hI => ?_⟩⟩
  have se0 := same_new he0 (.lst [])
  have ee0 := upd_same (H := F1) (a := e0) (o := .lst [])
  have z2a := z2.same se0
  generalize L2.upd F1 e0 (.lst []) = F2 at se0 ee0 z2a hI ⊢
  have sI := same_new hI (.lst [vo, .non, .bl true, .str "1", .int ((10 : Int) ^ (30 : Int).toNat), .ref e0, .int 0, .int (-1)])
  have eI := upd_same (H := F2) (a := I) (o := .lst [vo, .non, .bl true, .str "1", .int ((10 : Int) ^ (30 : Int).toNat), .ref e0, .int 0, .int (-1)])
  have z3 := z2a.same sI
  have oneO3 := z3.one oneO
  have ha3 := z3.2.1 _ _ naL haF
  have ne0L : e0 ≠ L := fun e => by
    obtain ⟨_, _, ws, ew, _⟩ := z2
    rw [e, ew] at he0; cases he0
  have nIL : I ≠ L := fun e => by
    obtain ⟨_, _, ws, ew, _⟩ := z2a
    rw [e, ew] at hI; cases hI
  have ne0 : e0 ≠ s ∧ e0 ≠ c := z2.1.ne_none he0
  have ee3 := sI _ _ ee0
  generalize L2.upd F2 I (.lst [vo, .non, .bl true, .str "1", .int ((10 : Int) ^ (30 : Int).toNat), .ref e0, .int 0, .int (-1)]) = F3 at *
  have one : ∀ v ∈ ([vo, .non, .bl true, .str "1", .int ((10 : Int) ^ (30 : Int).toNat), .ref e0, .int 0, .int (-1)] : List V), OneL s c L F3 v :=
    forall_cons oneO3 (forall_cons ⟨_, .non, ⟨rfl, Nat.zero_le _, rfl, Nat.zero_le _⟩, zlo, zhi⟩ (forall_cons ⟨_, .bl true, ⟨rfl, Nat.zero_le _, rfl, Nat.zero_le _⟩, zlo, zhi⟩ (forall_cons ⟨_, .str _, ⟨by decide +kernel, Nat.zero_le _, by decide +kernel, by decide +kernel⟩, zlo, zhi⟩
      (forall_cons ⟨_, .int _, ⟨by decide +kernel, Nat.zero_le _, by decide +kernel, by decide +kernel⟩, by decide +kernel, by decide +kernel⟩ (forall_cons ⟨.list [], .lst (cut_in ⟨ne0L, ne0L⟩ (cut_in ne0 ee3)) big0 .nil, ⟨rfl, by decide, rfl, by decide⟩, zlo, zhi⟩
        (forall_cons ⟨_, .int _, ⟨by decide +kernel, Nat.zero_le _, by decide +kernel, by decide +kernel⟩, by decide +kernel, by decide +kernel⟩ (forall_cons ⟨_, .int _, ⟨by decide +kernel, Nat.zero_le _, by decide +kernel, by decide +kernel⟩, by decide +kernel, by decide +kernel⟩ forall_nil)))))))
  have z3' := z3.re
  refine ⟨I, rfl, ⟨_, SqL.of eI⟩, for_list (K := K) (a := I) (xs := [vo, .non, .bl true, .str "1", .int ((10 : Int) ^ (30 : Int).toNat), .ref e0, .int 0, .int (-1)]) (fun i σ N => ∃ v7 : Option V, σ = [some (.ref s), some (.ref wd), some (.ref a), some vo, some (.int (as.length : Nat)), some (.int (kn : Nat)), some (.ref L), v7] ∧ NearI s c L F3 N (10 + i))
    ⟨none, rfl, z3'⟩ (fun i σ N _ ⟨_, _, z⟩ => SqL.of (z.2.1 _ _ nIL eI)) (fun i y σ N hy z => ?_) (fun σ N z => ?_)⟩
  · obtain ⟨v7, rfl, zN⟩ := z
    have oneN := zN.one (one y (List.mem_of_getElem? hy))
    have haN := zN.2.1 _ _ naL ha3
    obtain ⟨vsN, eN, _⟩ := id zN.2.2
    refine ⟨_, rfl, .inl ⟨rfl, _, SqL.of eN⟩, _, rfl, ?_⟩
    simp only [tNoPart]
    refine ⟨_, rfl, (kn : Int), rfl, ?_⟩
    refine sl_any haN fun p1 N1 s1 e1 => ?_
    obtain ⟨y1, c1, ly1, m1⟩ := cut_ints as none (some (kn : Int))
    rw [c1] at e1
    refine ⟨_, rfl, (by show 1 ≤ sizeLine; decide), fun t ht => ?_⟩
    have st := same_new ht (.tup [y])
    refine cat_any (st _ _ e1) upd_same (by rw [List.length_map]; show y1.length + 1 ≤ 1000; omega) fun p2 N2 s2 e2 => ?_
    have h02 := s1.trans (st.trans s2)
    refine ⟨_, rfl, _, rfl, _, _, rfl, rfl, _, rfl, ?_⟩
    try simp only [tNoPart]
    refine sl_any (h02 _ _ haN) fun p3 N3 s3 e3 => ?_
    obtain ⟨y3, c3, ly3, m3⟩ := cut_ints as (some ((kn : Int) + 1)) none
    rw [c3] at e3
    refine cat_any (s3 _ _ e2) e3 (by rw [List.length_append, List.length_map, List.length_map]; show y1.length + 1 + y3.length ≤ 1000; omega) fun p4 N4 s4 e4 => ?_
    have h04 := h02.trans (s3.trans s4)
    have z4 := zN.same h04
    have sub : ∀ {q : Addr} {xs : List V}, N4 q = some (.tup xs) → q ≠ L := fun {q xs} e n => by
      obtain ⟨_, _, ws, ew, _⟩ := z4
      rw [n, ew] at e; cases e
    obtain ⟨vs4, ev4, lv4, z5⟩ := z4.add nL (near_one (z4.1.ne_tup e4) (sub e4) e4 (oneN.same h04) (fun z hz => fs z (m1 z hz)) (fun z hz => fs z (m3 z hz)) (by omega) (by omega))
    have li : i < 8 := (List.getElem?_eq_some_iff.mp hy).1
    exact ⟨L, _, _, rfl, rfl, ev4, small (by omega), _, rfl, z5⟩
  · obtain ⟨v7, rfl, zN⟩ := z
    have haN := zN.2.1 _ _ naL ha3
    have oneN := zN.one oneO3
    obtain ⟨vsN, eN, lN, _⟩ := id zN.2.2
    refine ⟨_, rfl, _, rfl, ?_⟩
    try simp only [tNoPart]
    refine ⟨_, rfl, (kn : Int), rfl, ?_⟩
    refine sl_any haN fun p1 N1 s1 e1 => ?_
    obtain ⟨y1, c1, ly1, m1⟩ := cut_ints as none (some (kn : Int))
    rw [c1] at e1
    refine ⟨_, rfl, _, rfl, (by show 2 ≤ sizeLine; decide), fun t ht => ?_⟩
    have st := same_new ht (.tup [vo, vo])
    refine cat_any (st _ _ e1) upd_same (by rw [List.length_map]; show y1.length + 2 ≤ 1000; omega) fun p2 N2 s2 e2 => ?_
    have h02 := s1.trans (st.trans s2)
    refine ⟨_, rfl, _, rfl, _, _, rfl, rfl, _, rfl, ?_⟩
    try simp only [tNoPart]
    refine sl_any (h02 _ _ haN) fun p3 N3 s3 e3 => ?_
    obtain ⟨y3, c3, ly3, m3⟩ := cut_ints as (some ((kn : Int) + 2)) none
    rw [c3] at e3
    refine cat_any (s3 _ _ e2) e3 (by rw [List.length_append, List.length_map, List.length_map]; show y1.length + 2 + y3.length ≤ 1000; omega) fun p4 N4 s4 e4 => ?_
    have h04 := h02.trans (s3.trans s4)
    have z4 := zN.same h04
    have sub : ∀ {q : Addr} {xs : List V}, N4 q = some (.tup xs) → q ≠ L := fun {q xs} e n => by
      obtain ⟨_, _, ws, ew, _⟩ := z4
      rw [n, ew] at e; cases e
    have nr4 := near_two (z4.1.ne_tup e4) (sub e4) e4 (oneN.same h04) (fun z hz => fs z (m1 z hz)) (fun z hz => fs z (m3 z hz)) (by omega) (by omega)
    have all : NearI s c L F0 N4 18 := (z3.trans z4)
    obtain ⟨S4, k4, vs4, ev4, lv4, q4⟩ := all
    refine ⟨(by show 1 ≤ sizeLine; decide), fun l2 hl2 => ?_⟩
    have sl2 := same_new hl2 (.lst [.ref p4])
    refine ⟨L, l2, vs4, [.ref p4], rfl, rfl, sl2 _ _ ev4, upd_same, small (by show vs4.length + 1 ≤ 1000; omega), fun D hD => ?_⟩
    have sD := same_new hD (.lst (vs4 ++ [.ref p4]))
    have s4D := sl2.trans sD
    have nD4 : N4 D = none := by
      cases q : N4 D with
      | none => rfl
      | some u => rw [sl2 _ _ q] at hD; cases hD
    have g94 : Go s c N9 N4 := ⟨fun b u _ _ e => k4 b u (ne_of_none e hL) (sL b u e), S4⟩
    have gF := (gH9.trans g94).then s4D
    refine k D _ _ gF ((gH9.trans g94).free nD4) upd_same (by rw [List.length_append]; show vs4.length + 1 ≤ 100; omega) fun v hv => ?_
    rcases List.mem_append.mp hv with m | m
    · exact near_new (q4 v m) s4D nD4
    · rw [List.mem_singleton.mp m]
      exact near_new nr4 s4D nD4
end
end My

namespace My
open PySem PySem.Spec PyProof.Rows L2 LamX
/-! ### what a call gives, or the error's path -/
theorem takes_len {X : Cx} {W : WX} (t : Takes X W) : Takes X (fun cls d σ H => σ.length = X.N.length → W cls d σ H) := fun u s' z => by
  obtain ⟨a, B, sI, pins, σ, H, cls, d, e, I, nb, up, sky, na, os, ag, w⟩ := z
  exact t u s' ⟨a, B, sI, pins, σ, H, cls, d, e, I, nb, up, sky, na, os, ag, w I.len⟩
def TRef27 (Ca Cp : Addr) : (XK → Hp → VK → Prop) → Hp → VK → Prop := fun tl H Q =>
  tl (fun cls d H' => ∃ (dx : Addr) (v : V) (wd : Str), (cls = .ref Ca ∧ wd = "account" ∨ cls = .ref Cp ∧ wd = "prices") ∧ d = some dx ∧ H' dx = some (.xd [("path", v)]) ∧ ∀ p1, H' p1 = none → sysModules < p1 → Q (.ref p1) (L2.upd H' p1 (.lst [.str wd, v]))) H
    (fun v H' => [v].length ≤ sizeLine ∧ ∀ p1, H' p1 = none → sysModules < p1 → Q (.ref p1) (L2.upd H' p1 (.lst [v])))
section
variable {X : Cx}
theorem caught_gives (T : Tx X.K X.mg) {g : Addr} {cdg : Value} {q : Str} : GivesTo X ["_law_call", "e"] "_law_caught" (defScope s_law_caught) g cdg (defBody s_law_caught) "_law_call" q (TRef27 T.e_BadAccount.C T.e_BadPrices.C) := by
  intro f c' s H Q tl act hc h
  refine ⟨_, pss_one (ps_try_asMany
      (tb := fun W D σ H => ∃ Ech : XK, (∀ cls d σ' H', Ech cls d H' → σ'.length = 2 → W cls d σ' H') ∧ σ[0]? = some (some (.ref f)) ∧ H c' = some (CodeO c' q) ∧ tl Ech H (fun v H' => [v].length ≤ sizeLine ∧ ∀ p1, H' p1 = none → sysModules < p1 → D.rt (.ref p1) (L2.upd H' p1 (.lst [v]))))
      (l := [(.ref T.e_BadAccount.C, 1, fun a cls d => tRet (tLstN (tCons (tC (.str "account")) (tCons (tXf a cls d T.e_BadAccount.C "path" (tVar 1)) tNil)))), (.ref T.e_BadPrices.C, 1, fun a cls d => tRet (tLstN (tCons (tC (.str "prices")) (tCons (tXf a cls d T.e_BadPrices.C "path" (tVar 1)) tNil))))]) (Wout := fun _ _ _ _ => False)
      rfl rfl sc_law_caught.nd L2.takes0 (fun W pn xe tk _ => ?_)
      (.cons rfl rfl ⟨rfl, by decide, Or.inl T.e_BadAccount.m⟩ (fun a oe cls d pn hz hf => pss_one (ps_ret (pe_lstN (pa_cons pe_str (pa_cons (pe_xf T.e_BadAccount.xf T.e_BadAccount.noF hz hf (pv 1)) pa_nil)))))
        (.cons rfl rfl ⟨rfl, by decide, Or.inl T.e_BadPrices.m⟩ (fun a oe cls d pn hz hf => pss_one (ps_ret (pe_lstN (pa_cons pe_str (pa_cons (pe_xf T.e_BadPrices.xf T.e_BadPrices.noF hz hf (pv 1)) pa_nil))))) .nil))), ?_⟩
  · refine ⟨fun pins s' σ H' D I h' => ?_⟩
    obtain ⟨Ech, hW, h1, h2, h3⟩ := h'
    exact (pss_one (ps_ret (pe_lstN (pa_cons (act (fun cls d σ' H' => σ'.length = 2 → W cls d σ' H') pn xe Ech _ _ (takes_len tk) (fun cls d σ' H' e l => hW cls d σ' H' e l)) pa_nil)))).run pins s' σ H' D I ⟨h1, h2, h3⟩
  · refine ⟨_, fun cls d σ' H' e l => ?_, rfl, hc, h⟩
    obtain ⟨dx, v, wd, hw, rfl, ex, k⟩ := e
    obtain ⟨x0, x1, rfl⟩ : ∃ x0 x1, σ' = [x0, x1] := match σ', l with
      | [x0, x1], _ => ⟨x0, x1, rfl⟩
    rcases hw with ⟨rfl, rfl⟩ | ⟨rfl, rfl⟩
    · refine ⟨true, T.e_BadAccount.te, fun _ a ha => ?_, fun z => Bool.noConfusion z⟩
      exact ⟨_, rfl, rfl, rfl, dx, _, _, rfl, ex, by simp [List.lookup], (by show 2 ≤ sizeLine; decide), fun p1 h1 b1 => k p1 h1 b1⟩
    · refine ⟨false, T.xm_BadPrices_BadAccount, fun z => Bool.noConfusion z, fun _ => ?_⟩
      refine ⟨true, T.e_BadPrices.te, fun _ a ha => ?_, fun z => Bool.noConfusion z⟩
      exact ⟨_, rfl, rfl, rfl, dx, _, _, rfl, ex, by simp [List.lookup], (by show 2 ≤ sizeLine; decide), fun p1 h1 b1 => k p1 h1 b1⟩
theorem pe_ref27 {c P : Addr} {k : Nat} {params : Arguments} {body : Expr} {scope : Scope} {t : XK → TE} {p lpos pos : Pos} (T : Tx X.K X.mg) (hg : Gl X "_law_caught") (TB : TabB X.base X.mg c P) (hcode : X.env.code = .ref c) (hr : Room (k + 2) X.A) (L : LamS X.env.scope scope) (hdef : defaultsOf params X.env = ([], []))
    (hbind : ∀ (q : Str) (cl : List (Str × Addr)) (pm cv ctv : Value), bindArgs (PySem.W.kla_fn "<lambda>" q params body scope cl pm cv ctv) ⟨[], []⟩ = pure [])
    (hbody : ∀ (A : Around) (outer : List Env) (s : Shared) (H : Hp) (E : XK) (f c' : Addr), Room k (A.deeper (lamEnv X scope s.heap.objs.size f c')) → PE (lamCx X A outer s H E scope f c') body (t E)) :
    PE X (.Call (.Name "_law_caught" p) [.Lambda params body scope lpos] [] pos) (tLam [(P, X.env.qual ++ "<lambda>")] (TRef27 T.e_BadAccount.C T.e_BadPrices.C) t) := by
  obtain ⟨oc, od, kV, doc, pm, an, cdv, ct, osl, efd, lk, hcd⟩ := T.F_law_caught.ex
  have hb := T.b_law_caught
  rw [efd] at lk hb
  exact pe_lamcall hg T.m_law_caught T.F_law_caught.kp lk hcd hb sc_law_caught rfl (.inl rfl) (caught_gives T) TB hcode (List.mem_singleton.mpr rfl) (fun q hq _ => by rw [List.mem_singleton.mp hq]) hr L hdef hbind hbody
end
/-! ### what stays behind a call with a lambda -/
mutual
theorem Dq.ext {H H' : Hp} (e : ExtN H H') : ∀ {v : V} {d : PyData}, Dq H v d → Dq H' v d
  | _, _, .non => .non
  | _, _, .bl b => .bl b
  | _, _, .int i => .int i
  | _, _, .str x => .str x
  | _, _, .lst h n hs => .lst (e _ _ h (fun _ z => nomatch z)) n (DqAll.ext e hs)
  | _, _, .tup h hs => .tup (e _ _ h (fun _ z => nomatch z)) (DqAll.ext e hs)
  | _, _, .dct h x => .dct (e _ _ h (fun _ z => nomatch z)) x
theorem DqAll.ext {H H' : Hp} (e : ExtN H H') : ∀ {vs : List V} {ds : List PyData}, DqAll H vs ds → DqAll H' vs ds
  | _, _, .nil => .nil
  | _, _, .cons h hs => .cons (Dq.ext e h) (DqAll.ext e hs)
end
theorem cut_ext {s c : Addr} {H H' : Hp} (e : ExtN H H') : ExtN (cutH s c H) (cutH s c H') := fun b u h n => by
  have ⟨n1, n2, e1⟩ := cut_at' h
  exact cut_in ⟨n1, n2⟩ (e b u e1 n)
theorem Src.ext {s c : Addr} {H H' : Hp} (S : Src H s c) (e : ExtN H H') : Src H' s c := by
  obtain ⟨l, m, t, ns, h⟩ := S
  exact ⟨l, m, t, ns, e _ _ h.hs (fun _ z => nomatch z), e _ _ h.hc (fun _ z => nomatch z), h.l0, h.m0, h.m1, h.t0, h.n0, h.len⟩
theorem codeO_dK (c : Addr) (q : Str) (kvs : List (Key × V)) : CodeO c q ≠ .dK kvs := fun z => by unfold CodeO at z; cases z
theorem codeO_lst (c : Addr) (q : Str) (xs : List V) : CodeO c q ≠ .lst xs := fun z => by unfold CodeO at z; cases z
theorem tabs_go {L : List (Addr × Str)} {s c : Addr} {H H' : Hp} (t : Tabs L H) (S : Src H s c) (g : Go s c H H') : Tabs L H' := fun p hp => by
  obtain ⟨ps, h1, h2, h3⟩ := t p hp
  obtain ⟨_, _, _, _, S⟩ := S
  refine ⟨ps, g.keep _ _ (ne_of h1 S.hs (by intro z; cases z)) (ne_of h1 S.hc (by intro z; cases z)) h1, h2, fun pos cv hc => ?_⟩
  obtain ⟨c0, e1, e2⟩ := h3 pos cv hc
  exact ⟨c0, e1, g.keep _ _ (ne_of e2 S.hs (codeO_dK _ _ _)) (ne_of e2 S.hc (codeO_lst _ _ _)) e2⟩
theorem passN {X : Cx} : Passes (L2.CX X.prog X.w) X (fun _ _ _ => False) := fun _ _ _ _ _ _ _ h => by
  obtain ⟨_, _, _, _, _, _, _, _, _, _, _, _, z⟩ := h
  exact z.elim
theorem fnOk_up {P : Program} {w : World} {K : PySem.W.Frag} {mg : Str → Option Value} {base : Heap} {CX : CXT} {k j : Nat} {f : Addr} {fd : FuncData} {ps : List Str} {sp : Sp} (F : FnOk P w K mg base CX j f fd ps sp) (h : j ≤ k) : FnOk P w K mg base CX k f fd ps sp :=
  ⟨F.len, fun A outer s H args us vs Q E hr => F.run A outer s H args us vs Q E (hr.mono h)⟩
def spLawT (K : PySem.W.Frag) (p : Addr) : Sp := fun vs H Q _ => ∃ (a : Addr) (ns : List Int), vs = [.ref a] ∧ SqL K H a (ns.map V.int) ∧ ns.length ≤ 63 ∧ H p = some (.tbl #[]) ∧ ∀ H', Q (.bl true) H'
/-- the name of a lambda of the law -/
def lamQ : Str := ("law" : Str) ++ ".<locals>." ++ "<lambda>"
theorem tabs_upd {L : List (Addr × Str)} {H : Hp} {q : Addr} {ys zs : List V} (e : H q = some (.lst ys)) (t : Tabs L H) : Tabs L (L2.upd H q (.lst zs)) := fun p hp => by
  obtain ⟨ps, h1, h2, h3⟩ := t p hp
  refine ⟨ps, by rw [upd_ne (ne_of h1 e (by intro z; cases z))]; exact h1, h2, fun pos cv hc => ?_⟩
  obtain ⟨c0, e1, e2⟩ := h3 pos cv hc
  exact ⟨c0, e1, by rw [upd_ne (ne_of e2 e (codeO_lst _ _ _))]; exact e2⟩
theorem BrsAt.ext {H H' : Hp} (e : ExtN H H') {ps : List Addr} {bs : List Br} (h : BrsAt H ps bs) : BrsAt H' ps bs := ⟨h.1, fun i p b h1 h2 => by
  obtain ⟨a, q1, q2⟩ := h.2 i p b h1 h2
  exact ⟨a, e _ _ q1 (fun _ z => nomatch z), e _ _ q2 (fun _ z => nomatch z)⟩⟩
theorem BookH.ext {C : Addr} {H H' : Hp} (e : ExtN H H') {x : Addr} {gs : List Str} {bs : List Br} (h : BookH C H x gs bs) : BookH C H' x gs bs := by
  obtain ⟨dx, tg, tb, dg, db, ps, h1, h2, h3, h4, h5, h6⟩ := h
  exact ⟨dx, tg, tb, dg, db, ps, e _ _ h1 (fun _ z => nomatch z), e _ _ h2 (fun _ z => nomatch z), e _ _ h3 (fun _ z => nomatch z), h4.ext e, e _ _ h5 (fun _ z => nomatch z), e _ _ h6 (fun _ z => nomatch z)⟩
end My

namespace My
open PySem PySem.Spec PyProof.Rows L2
/-! ### what a sum of accounts costs -/
def absI (a : Int) : Int := if a < 0 then -a else a
theorem cost_cons (a p : Int) (as ps : List Int) : costI (a :: as) (p :: ps) = absI a * p + costI as ps := by
  unfold costI absI
  rw [List.zipWith_cons_cons, List.sum_cons]
theorem abs_tri (a o : Int) : absI (a + o) ≤ absI a + absI o := by
  unfold absI
  split <;> split <;> split <;> omega
theorem abs_eq {a o : Int} (h : ¬ (a < 0 ∧ 0 < o) ∧ ¬ (o < 0 ∧ 0 < a)) : absI (a + o) = absI a + absI o := by
  unfold absI
  split <;> split <;> split <;> omega
theorem cost_tri : ∀ {as os ps : List Int}, as.length = os.length → os.length = ps.length → (∀ p ∈ ps, 0 ≤ p) → costI (List.zipWith (· + ·) as os) ps ≤ costI as ps + costI os ps
  | [], [], [], _, _, _ => by decide
  | a :: as, o :: os, p :: ps, h1, h2, hp => by
    have ih := cost_tri (as := as) (os := os) (ps := ps) (Nat.succ.inj h1) (Nat.succ.inj h2) fun x hx => hp x (List.mem_cons_of_mem _ hx)
    rw [List.zipWith_cons_cons, cost_cons, cost_cons, cost_cons]
    have q := Int.mul_le_mul_of_nonneg_right (abs_tri a o) (hp p List.mem_cons_self)
    rw [Int.add_mul] at q
    omega
theorem cost_sum : ∀ {as os ps : List Int}, as.length = os.length → os.length = ps.length → (∀ (i : Nat) (u v : Int), as[i]? = some u → os[i]? = some v → ¬ (u < 0 ∧ 0 < v) ∧ ¬ (v < 0 ∧ 0 < u)) → costI (List.zipWith (· + ·) as os) ps = costI as ps + costI os ps
  | [], [], [], _, _, _ => by decide
  | a :: as, o :: os, p :: ps, h1, h2, hp => by
    have ih := cost_sum (as := as) (os := os) (ps := ps) (Nat.succ.inj h1) (Nat.succ.inj h2) fun i u v e1 e2 => hp (i + 1) u v (by rw [List.getElem?_cons_succ]; exact e1) (by rw [List.getElem?_cons_succ]; exact e2)
    rw [List.zipWith_cons_cons, cost_cons, cost_cons, cost_cons, ih, abs_eq (hp 0 a o rfl rfl), Int.add_mul]
    omega
theorem abs_le {a m : Int} (h : -m ≤ a ∧ a ≤ m) : 0 ≤ absI a ∧ absI a ≤ m := by
  unfold absI
  split <;> omega
end My

namespace My
open PySem PySem.Spec PyProof.Rows L2 LamX
theorem first_form {f : PyData → Bool} : ∀ {ds : List PyData} {k : Nat} {ks : List Int}, firstN f k ds = some ks → ∃ z : Nat, ks = [(z : Int)] ∧ z < k + ds.length
  | d :: ds, k, ks, h => by
    unfold firstN at h
    split at h
    · obtain ⟨z, e, l⟩ := first_form h
      exact ⟨z, e, by rw [List.length_cons]; omega⟩
    · cases h
      exact ⟨k, rfl, by rw [List.length_cons]; omega⟩
theorem wrongA_form {n : Nat} {d : PyData} {ks : List Int} (h : wrongA n d = some ks) : ks = [] ∨ ∃ z : Nat, ks = [(z : Int)] ∧ z < n := by
  cases d with
  | tuple ds =>
    have h : (if ds.length = n then firstN isIntD 0 ds else some []) = some ks := h
    split at h
    · next e =>
      obtain ⟨z, q, l⟩ := first_form h
      exact .inr ⟨z, q, by omega⟩
    · cases h; exact .inl rfl
  | _ => cases h; exact .inl rfl
theorem wrongP_form {n : Nat} {d : PyData} {ks : List Int} (h : wrongP n d = some ks) : ks = [] ∨ ∃ z : Nat, ks = [(z : Int)] ∧ z < n := by
  unfold wrongP at h
  split at h
  · split at h
    · next e =>
      obtain ⟨z, q, l⟩ := first_form h
      exact .inr ⟨z, q, by omega⟩
    · cases h; exact .inl rfl
  · cases h; exact .inl rfl
theorem cost_big : ∀ {as ps : List Int}, (∀ z ∈ as, -(10 ^ 40) < z ∧ z < 10 ^ 40) → (∀ z ∈ ps, -(10 ^ 40) < z ∧ z < 10 ^ 40) → (costI as ps).natAbs ≤ as.length * 10 ^ 80
  | [], ps, _, _ => by simp [costI]
  | a :: as, [], _, _ => by simp [costI]
  | a :: as, p :: ps, ha, hp => by
    have ih := cost_big (as := as) (ps := ps) (fun z m => ha z (List.mem_cons_of_mem _ m)) (fun z m => hp z (List.mem_cons_of_mem _ m))
    rw [cost_cons, List.length_cons]
    have h1 := ha a List.mem_cons_self
    have h2 := hp p List.mem_cons_self
    have a1 : (absI a).natAbs ≤ 10 ^ 40 := by unfold absI; split <;> omega
    have p1 : p.natAbs ≤ 10 ^ 40 := by omega
    have q : (absI a * p).natAbs ≤ 10 ^ 40 * 10 ^ 40 := by rw [Int.natAbs_mul]; exact Nat.mul_le_mul a1 p1
    have e : (10 : Nat) ^ 40 * 10 ^ 40 = 10 ^ 80 := by decide
    rw [e] at q
    have s := Int.natAbs_add_le (absI a * p) (costI as ps)
    rw [Nat.succ_mul]
    omega
theorem sm_wide {i : Int} (h : i.natAbs < 10 ^ 83) : (PyData.int i).showable = true ∧ (PyData.int i).leavesShort 84 = true := by
  refine ⟨decide_eq_true ?_, decide_eq_true ?_⟩
  · by_cases h0 : i.natAbs = 0
    · rw [h0]; decide
    · exact (Nat.log2_lt h0).mpr (Nat.lt_trans h (by decide +kernel))
  · show (Str.ofString (toString i)).length ≤ 84
    rw [PySem.ofString_length]
    exact int_text_length_le10 (by decide) h
/-- what is caught can be shown -/
theorem costD_sm {n : Nat} {da dp : PyData} (hn : n ≤ 100) (ba : BigD da) (bp : BigD dp) : (costD n da dp).showable = true ∧ (costD n da dp).depth ≤ 60 ∧ (costD n da dp).shown.length ≤ sizeLine := by
  have form : ∀ {wd : Str} {ks : List Int}, (wd = "account" ∨ wd = "prices") → (ks = [] ∨ ∃ z : Nat, ks = [(z : Int)] ∧ z < n) → Sm 2 20 (.list [.str wd, .tuple (ks.map PyData.int)]) := fun {wd ks} hw hk => by
    have s1 : Sm 1 7 (.str wd) := by rcases hw with rfl | rfl <;> exact ⟨rfl, Nat.zero_le _, by decide +kernel, by decide +kernel⟩
    have s2 : Sm 1 1 (.tuple (ks.map PyData.int)) := by
      refine SmA.tuple (k := 0) ?_
      refine (Sm.lift (k' := 0) (b' := 1) (sm_smalls (r := ks) ?_) (Nat.le_refl _) ?_)
      · rcases hk with rfl | ⟨z, rfl, l⟩
        · exact fun _ h => nomatch h
        · exact fun y hy => by rw [List.mem_singleton.mp hy]; omega
      · rcases hk with rfl | ⟨z, rfl, l⟩
        · exact Nat.zero_le _
        · exact Nat.le_refl _
    exact ((SmA.cons s1 (SmA.cons s2 (SmA.nil (b := 0)))).list).up (Nat.le_refl _) (by decide)
  unfold costD
  cases hA : wrongA n da with
  | some ks =>
    have s := form (.inl rfl) (wrongA_form hA)
    exact ⟨s.sh, Nat.le_trans s.dp (by decide), s.fits (by decide)⟩
  | none =>
    cases hP : wrongP n dp with
    | some ks =>
      have s := form (.inr rfl) (wrongP_form hP)
      exact ⟨s.sh, Nat.le_trans s.dp (by decide), s.fits (by decide)⟩
    | none =>
      obtain ⟨ds, rfl, l1, h1⟩ := wrongA_ok hA
      have b := cost_big (as := intsD (.tuple ds)) (ps := intsD dp) (fun z m => by obtain ⟨x, hx, rfl⟩ := List.mem_map.mp m; exact ba x hx) (fun z m => by obtain ⟨x, hx, rfl⟩ := List.mem_map.mp m; exact bp x hx)
      have l : (intsD (.tuple ds)).length = n := by unfold intsD; rw [List.length_map]; exact l1
      rw [l] at b
      have lt : (costI (intsD (.tuple ds)) (intsD dp)).natAbs < 10 ^ 83 := by
        have : n * 10 ^ 80 ≤ 100 * 10 ^ 80 := Nat.mul_le_mul_right _ hn
        have e : 100 * 10 ^ 80 < 10 ^ 83 := by decide
        omega
      obtain ⟨s1, s2⟩ := sm_wide lt
      refine ⟨?_, (show (1 : Nat) ≤ 60 by decide), ?_⟩
      · show (PyData.showable _ && true) = true
        rw [s1]; rfl
      · have q := PyData.shown_le_bulk 84 (by decide) (.list [.int (costI (intsD (.tuple ds)) (intsD dp))]) (by show (PyData.leavesShort 84 _ && true) = true; rw [s2]; rfl)
        show (PyData.list [.int (costI (intsD (.tuple ds)) (intsD dp))]).shown.length ≤ sizeLine
        rw [sizeLine_eq]
        have e : (PyData.list [.int (costI (intsD (.tuple ds)) (intsD dp))]).bulk = 1 := rfl
        rw [e] at q
        omega
/-! ### what stays behind a call with a lambda -/
theorem Vw.ext {H H' : Hp} {v : V} {d : PyData} (e : ExtN H H') (h : Vw H v d) : Vw H' v d := by
  rcases h with h | ⟨a, ns, h1, h2, h3⟩
  · exact .inl (h.ext e)
  · exact .inr ⟨a, ns, h1, e _ _ h2 (fun _ z => nomatch z), h3⟩
theorem WorldX.ext {C : Addr} {M M' : Hp} {wd g l x : Addr} {ps : List Addr} {ex : List (Key × V)} {gs : List Str} {bs : List Br} (h : WorldX C M wd g l x ps ex gs bs) (e : ExtN M M') : WorldX C M' wd g l x ps ex gs bs :=
  ⟨e _ _ h.hw (fun _ z => nomatch z), e _ _ h.hg (fun _ z => nomatch z), e _ _ h.hl (fun _ z => nomatch z), h.hb.ext e, h.bk.ext e, h.G⟩
/-- a lambda that asks for the cost -/
theorem lam_cost {P C Ca Cp x : Addr} {q : Str} {σ : L2.St} {H : Hp} {gs : List Str} {bs : List Br} {va vp : V} {da dp : PyData} {Q : VK} {t : XK → TE} (tb : Tabs [(P, q)] H) (bk : BookH C H x gs bs) (l : bs.length ≤ 100) (hva : Vw H va da) (hvp : Vw H vp dp) (ba : BigD da) (bp : BigD dp)
    (ht : ∀ (E : XK) (H1 : Hp) (R : VK), spCost C Ca Cp [.ref x, va, vp] H1 R E → t E σ H1 R)
    (k : ∀ (r : Addr) (H2 : Hp), ExtN H H2 → Tabs [(P, q)] H2 → Dq H2 (.ref r) (costD bs.length da dp) → Q (.ref r) H2) : tLam [(P, q)] (TRef27 Ca Cp) t σ H Q := by
  refine ⟨tb, fun H1 e1 t1 => ?_⟩
  refine ht _ _ _ ⟨x, gs, bs, va, vp, da, dp, rfl, bk.ext e1, l, hva.ext e1, hvp.ext e1, ba, bp, fun ks h dx t0 H' sH ex et => ?_, fun h ks h2 dx t0 H' sH ex et => ?_, fun h h2 H' sH => ?_⟩
  · refine ⟨dx, .ref t0, "account", .inl ⟨rfl, rfl⟩, rfl, ex, fun p1 h1 b1 => ?_⟩
    have sA := sH.trans (same_new h1 (.lst [.str "account", .ref t0]))
    refine k p1 _ (e1.trans (.of sA)) (t1.ext sA) ?_
    unfold costD
    rw [h]
    exact .lst upd_same b1 (.cons (.str _) (.cons (.tup (same_new h1 _ _ _ et) (dq_ints ks)) .nil))
  · refine ⟨dx, .ref t0, "prices", .inr ⟨rfl, rfl⟩, rfl, ex, fun p1 h1 b1 => ?_⟩
    have sA := sH.trans (same_new h1 (.lst [.str "prices", .ref t0]))
    refine k p1 _ (e1.trans (.of sA)) (t1.ext sA) ?_
    unfold costD
    rw [h, h2]
    exact .lst upd_same b1 (.cons (.str _) (.cons (.tup (same_new h1 _ _ _ et) (dq_ints ks)) .nil))
  · refine ⟨Nat.le_refl 1 |> fun _ => (by show 1 ≤ sizeLine; decide), fun p1 h1 b1 => ?_⟩
    have sA := sH.trans (same_new h1 (.lst [.int (costI (intsD da) (intsD dp))]))
    refine k p1 _ (e1.trans (.of sA)) (t1.ext sA) ?_
    unfold costD
    rw [h, h2]
    exact .lst upd_same b1 (.cons (.int _) .nil)
/-! ### values of prices -/
def rReprE (K : PySem.W.Frag) : List V → Hp → VK → Prop := fun xs H Q => rReprQ xs H Q ∨ rReprD K xs H Q
theorem call_repr_E {X : Cx} (hg : X.A.guards = some []) (hu : X.A.units + 64 < cLine) : CallR X (.builtin "repr") (rReprE X.K) := fun pins s σ H xs us Q I r h => h.elim (call_repr_Q hg hu pins s σ H xs us Q I r) (call_repr_D hg hu pins s σ H xs us Q I r)
theorem dpw_ints {K : PySem.W.Frag} {H : Hp} : ∀ ks : List Int, DpAll K H (ks.map V.int) (ks.map PyData.int)
  | [] => .nil
  | k :: ks => .cons (.int k) (dpw_ints ks)
theorem repr_vw {K : PySem.W.Frag} {H : Hp} {v : V} {d : PyData} {Q : VK} (h : Vw H v d) (sh : d.showable = true) (dd : d.depth ≤ 60) (sz : d.shown.length ≤ sizeLine) (q : Q (.str d.shown) H) : rReprE K [v] H Q := by
  rcases h with h | ⟨a, ns, rfl, e, rfl⟩
  · exact .inl ⟨v, d, rfl, h, sh, dd, sz, q⟩
  · exact .inr ⟨a, _, rfl, .lst (SqL.of e) (dpw_ints ns), sh, dd, sz, q⟩
def PrV (H : Hp) (v : V) : Prop := ∃ d, Vw H v d ∧ Sm 4 700 d ∧ BigD d
theorem PrV.same {H H' : Hp} {v : V} (e : Same H H') (h : PrV H v) : PrV H' v := by
  obtain ⟨d, a, b⟩ := h
  exact ⟨d, a.same e, b⟩
theorem PrV.ext {H H' : Hp} {v : V} (e : ExtN H H') (h : PrV H v) : PrV H' v := by
  obtain ⟨d, a, b⟩ := h
  exact ⟨d, a.ext e, b⟩
theorem sm_int21 {z : Int} (h : z.natAbs < 10 ^ 21) : Sm 0 0 (.int z) := by
  refine ⟨decide_eq_true ?_, Nat.zero_le _, decide_eq_true ?_, Nat.zero_le _⟩
  · by_cases h0 : z.natAbs = 0
    · rw [h0]; decide
    · exact (Nat.log2_lt h0).mpr (Nat.lt_trans h (by decide +kernel))
  · show (Str.ofString (toString z)).length ≤ 40
    rw [PySem.ofString_length]
    exact Nat.le_trans (int_text_length_le10 (by decide) h) (by decide)
theorem sm_ints21 : ∀ {r : List Int}, (∀ z ∈ r, 0 ≤ z ∧ z ≤ 10 ^ 20) → SmA 0 r.length (r.map PyData.int)
  | [], _ => .nil
  | z :: r, h => by
    have hz := h z List.mem_cons_self
    refine SmA.up (SmA.cons (sm_int21 (by omega)) (sm_ints21 fun y hy => h y (List.mem_cons_of_mem _ hy))) ?_
    rw [List.length_cons]; omega
theorem big_pr {ns : List Int} (h : ∀ z ∈ ns, 0 ≤ z ∧ z ≤ 10 ^ 20) : ∀ x ∈ ns.map PyData.int, -(10 ^ 40) < intD x ∧ intD x < 10 ^ 40 := fun x hx => by
  obtain ⟨z, hz, rfl⟩ := List.mem_map.mp hx
  have := h z hz
  show -(10 ^ 40) < z ∧ z < 10 ^ 40
  omega
/-- a part of the prices, something, a part of the prices -/
theorem pr_mix {N : Hp} {p : Addr} {as bs : List Int} {vs : List V} {ds : List PyData} (e : N p = some (.lst (as.map V.int ++ vs ++ bs.map V.int))) (big : sysModules < p) (h : DqAll N vs ds) (sa : ∀ z ∈ as, 0 ≤ z ∧ z ≤ 10 ^ 20) (sb : ∀ z ∈ bs, 0 ≤ z ∧ z ≤ 10 ^ 20)
    (la : as.length ≤ 50) (lb : bs.length ≤ 50) (sm : SmA 3 300 ds) (bg : ∀ x ∈ ds, -(10 ^ 40) < intD x ∧ intD x < 10 ^ 40) : PrV N (.ref p) := by
  refine ⟨.list (as.map PyData.int ++ ds ++ bs.map PyData.int), .inl (.lst e big (dq_app (dq_app (dq_ints as) h) (dq_ints bs))), ?_, big_app (big_app (big_pr sa) bg) (big_pr sb)⟩
  have h1 := Sm.lift (sm_ints21 sa) (Nat.zero_le 3) (Nat.le_refl _)
  have h2 := Sm.lift (sm_ints21 sb) (Nat.zero_le 3) (Nat.le_refl _)
  exact (((h1.append sm).append h2).up (by omega)).list
theorem pr_one {N : Hp} {p : Addr} {as bs : List Int} {v : V} {d : PyData} (e : N p = some (.lst (as.map V.int ++ [v] ++ bs.map V.int))) (big : sysModules < p) (h : Dq N v d) (sm : Sm 3 100 d) (b1 : -(10 ^ 40) < intD d) (b2 : intD d < 10 ^ 40) (sa : ∀ z ∈ as, 0 ≤ z ∧ z ≤ 10 ^ 20) (sb : ∀ z ∈ bs, 0 ≤ z ∧ z ≤ 10 ^ 20)
    (la : as.length ≤ 50) (lb : bs.length ≤ 50) : PrV N (.ref p) :=
  pr_mix e big (.cons h .nil) sa sb la lb ((SmA.cons sm (SmA.nil : SmA 3 0 [])).up (by omega)) fun x hx => by
    rw [List.mem_singleton.mp hx]; exact ⟨b1, b2⟩
theorem pr_two {N : Hp} {p : Addr} {as bs : List Int} {v : V} {d : PyData} (e : N p = some (.lst (as.map V.int ++ [v, v] ++ bs.map V.int))) (big : sysModules < p) (h : Dq N v d) (sm : Sm 3 100 d) (b1 : -(10 ^ 40) < intD d) (b2 : intD d < 10 ^ 40) (sa : ∀ z ∈ as, 0 ≤ z ∧ z ≤ 10 ^ 20) (sb : ∀ z ∈ bs, 0 ≤ z ∧ z ≤ 10 ^ 20)
    (la : as.length ≤ 50) (lb : bs.length ≤ 50) : PrV N (.ref p) :=
  pr_mix e big (.cons h (.cons h .nil)) sa sb la lb ((SmA.cons sm (SmA.cons sm (SmA.nil : SmA 3 0 []))).up (by omega)) fun x hx => by
    simp only [List.mem_cons, List.not_mem_nil, or_false] at hx
    rcases hx with rfl | rfl <;> exact ⟨b1, b2⟩
section
variable {K : PySem.W.Frag} {H : Hp} {a b : Addr} {xs ys : List V} {lo hi : Option Int} {Q : VK}
theorem sl_l (h : H a = some (.lst xs)) (k : ∀ (p : Addr) (H' : Hp), Same H H' → H' p = some (.lst (cutV xs lo hi)) → sysModules < p → Q (.ref p) H') : rSlLN K (.ref a) lo hi H Q :=
  ⟨a, xs, rfl, SqL.of h, fun p hp b => k p _ (same_new hp _) upd_same b⟩
theorem cat_l (h : H a = some (.lst xs)) (h2 : H b = some (.lst ys)) (l : xs.length + ys.length ≤ 1000) (k : ∀ (p : Addr) (H' : Hp), Same H H' → H' p = some (.lst (xs ++ ys)) → sysModules < p → Q (.ref p) H') : rCatN (.ref a) (.ref b) H Q :=
  ⟨a, b, xs, ys, rfl, rfl, h, h2, small l, fun p hp b => k p _ (same_new hp _) upd_same b⟩
end
theorem ints_map : ∀ ns : List Int, (ns.map PyData.int).map intD = ns
  | [] => rfl
  | n :: ns => by rw [List.map_cons, List.map_cons, ints_map ns]; rfl
theorem wrongP_ints {n : Nat} {ns : List Int} (h : ns.length = n) (p : ∀ z ∈ ns, 0 ≤ z ∧ z ≤ 10 ^ 20) : wrongP n (.list (ns.map PyData.int)) = none := by
  show (if (ns.map PyData.int).length = n then firstN isNumD 0 (ns.map PyData.int) else some []) = none
  rw [List.length_map, if_pos h]
  refine first_none fun j d q => ?_
  rw [List.getElem?_map] at q
  cases e : ns[j]? with
  | none => rw [e] at q; cases q
  | some z =>
    rw [e] at q
    cases q
    exact decide_eq_true (p z (List.mem_of_getElem? e)).1
/-- a cost that is told, prices in a list -/
theorem cost_told {C Ca Cp x pa D : Addr} {H : Hp} {gs : List Str} {bs : List Br} {as r : List Int} {R : VK} {E : XK} (bk : BookH C H x gs bs) (lb : bs.length ≤ 100) (ea : H pa = some (.tup (as.map V.int))) (eD : H D = some (.lst (r.map V.int))) (la : as.length = bs.length) (lr : r.length = bs.length)
    (ba : ∀ z ∈ as, -(100) ≤ z ∧ z ≤ 100) (br : ∀ z ∈ r, 0 ≤ z ∧ z ≤ 10 ^ 20) (k : ∀ H', Same H H' → R (.int (costI as r)) H') : spCost C Ca Cp [.ref x, .ref pa, .ref D] H R E := by
  refine ⟨x, gs, bs, .ref pa, .ref D, .tuple (as.map PyData.int), .list (r.map PyData.int), rfl, bk, lb, .inl (.tup ea (dq_ints as)), .inr ⟨D, r, rfl, eD, rfl⟩, big_ints (fun z hz => ba z hz), big_pr br, fun ks h => ?_, fun _ ks h => ?_, fun _ _ H' sH => ?_⟩
  · rw [wrongA_ints la] at h; cases h
  · rw [wrongP_ints lr br] at h; cases h
  · have e1 : intsD (.tuple (as.map PyData.int)) = as := ints_map as
    have e2 : intsD (.list (r.map PyData.int)) = r := ints_map r
    rw [e1, e2]
    exact k H' sH
theorem dp_strs {K : PySem.W.Frag} {H : Hp} : ∀ xs : List Str, DpAll K H (xs.map V.str) (xs.map PyData.str)
  | [] => .nil
  | x :: xs => .cons (.str x) (dp_strs xs)
theorem lay_strs {xs : List Str} (h : ∀ x ∈ xs, wordD (.str x) = true) : SeqAt.shaped (.list (xs.map PyData.str)) = true := (lay_list (k := 0) fun q hq => lay_str (h q hq)).shaped (by decide)
theorem wrongP_intsT {n : Nat} {ns : List Int} (h : ns.length = n) (p : ∀ z ∈ ns, 0 ≤ z ∧ z ≤ 10 ^ 20) : wrongP n (.tuple (ns.map PyData.int)) = none := wrongP_ints (n := n) h p
/-- a cost that is told, prices in a tuple -/
theorem cost_toldT {C Ca Cp x pa D : Addr} {H : Hp} {gs : List Str} {bs : List Br} {as r : List Int} {R : VK} {E : XK} (bk : BookH C H x gs bs) (lb : bs.length ≤ 100) (ea : H pa = some (.tup (as.map V.int))) (eD : H D = some (.tup (r.map V.int))) (la : as.length = bs.length) (lr : r.length = bs.length)
    (ba : ∀ z ∈ as, -(100) ≤ z ∧ z ≤ 100) (br : ∀ z ∈ r, 0 ≤ z ∧ z ≤ 10 ^ 20) (k : ∀ H', Same H H' → R (.int (costI as r)) H') : spCost C Ca Cp [.ref x, .ref pa, .ref D] H R E := by
  refine ⟨x, gs, bs, .ref pa, .ref D, .tuple (as.map PyData.int), .tuple (r.map PyData.int), rfl, bk, lb, .inl (.tup ea (dq_ints as)), .inl (.tup eD (dq_ints r)), big_ints (fun z hz => ba z hz), big_pr br, fun ks h => ?_, fun _ ks h => ?_, fun _ _ H' sH => ?_⟩
  · rw [wrongA_ints la] at h; cases h
  · rw [wrongP_intsT lr br] at h; cases h
  · have e1 : intsD (.tuple (as.map PyData.int)) = as := ints_map as
    have e2 : intsD (.tuple (r.map PyData.int)) = r := ints_map r
    rw [e1, e2]
    exact k H' sH
def gs3 : List Str := ["a", "b", "c"]
def bs3 : List Br := [("p", [-2, 1, 0]), ("q", [0, -3, 1])]
theorem good3 : GoodBk gs3 bs3 := ⟨by decide +kernel, by decide +kernel, by decide, by decide +kernel, by decide +kernel, by decide⟩
end My

namespace My
open PySem PySem.Spec PyProof.Rows L2 LamX
section
variable {P : Program} {w : World} {K : PySem.W.Frag} {mg : Str → Option Value} {base : Heap}
theorem ok_law (T : Tx K mg) {cc pp : Addr} (hc : CodeAt K T.a_law cc) (TB : TabB base mg cc pp) : FnG P w K mg base 61 T.a_law T.fd_law ["_law_script"] (spLawT K pp) := by
  refine FnG.ofC T.F_law hc sc_law (fun vs H Q E h => ?_) (fun A outer st H vs Q E hg hr h => ?_)
  · obtain ⟨a, ns, rfl, _⟩ := h
    rfl
  obtain ⟨a0, ns0, rfl, hS0, hl0, hT0, k⟩ := h
  have G_law_source : FnOk P w K mg base CX0 1 T.a_law_source T.fd_law_source ["_law_script"] (spSource K) := ok_source T
  have G_law_some_book : FnOk P w K mg base CX0 15 T.a_law_some_book T.fd_law_some_book ["_law_source_here"] (spBookS T.C_Book) := ok_some_bookS T
  have G_law_account := ok_account T (P := P) (w := w) (base := base)
  have G_law_of := ok_of T (P := P) (w := w) (base := base)
  have G_law_odd : FnOk P w K mg base CX0 3 T.a_law_odd T.fd_law_odd ["_law_source_here"] spOddQ := ok_odd T
  have G_law_pick : FnOk P w K mg base CX0 1 T.a_law_pick T.fd_law_pick ["_law_source_here", "_law_many"] spPick2 := ok_pick2 T
  have G_law_due : FnOk P w K mg base CX0 3 T.a_law_due T.fd_law_due ["_law_world", "_law_account_here", "_law_prices"] (spDue T.C_Book) := ok_due T
  have G_law_near_accounts : FnOk P w K mg base CX0 4 T.a_law_near_accounts T.fd_law_near_accounts ["_law_source_here", "_law_world", "_law_account_here"] (spNearA T.C_Book) := ok_near T
  have G_law_made := ok_made T (P := P) (w := w) (base := base)
  have G_cost := ok_cost T (P := P) (w := w) (base := base)
  have G_cancels_at := ok_cancels T (P := P) (w := w) (base := base)
  have hr_lam : Room 7 _ := hr.mono (by decide)
  have hr_law_source : Room 1 _ := hr.mono (by decide)
  have hr_law_some_book : Room 15 _ := hr.mono (by decide)
  have hr_law_account : Room 2 _ := hr.mono (by decide)
  have hr_law_of : Room 2 _ := hr.mono (by decide)
  have hr_law_odd : Room 3 _ := hr.mono (by decide)
  have hr_law_pick : Room 1 _ := hr.mono (by decide)
  have hr_law_due : Room 3 _ := hr.mono (by decide)
  have hr_law_near_accounts : Room 4 _ := hr.mono (by decide)
  have hr_law_made : Room 7 _ := hr.mono (by decide)
  have hr_cost : Room 5 _ := hr.mono (by decide)
  have hr_cancels_at : Room 5 _ := hr.mono (by decide)
  have hu64 := hr.units
  have hu := hu_of hr
  refine ⟨_, ((pss_cons (ps_set (i := 1) sc_law.nd rfl (Or.inr rfl) (pe_call G_law_source hr_law_source rfl T.m_law_source T.F_law_source.kp T.b_law_source .nil pass0 (pa_cons (pv 0) pa_nil)))
      (pss_cons (ps_for PassesOwn.never rfl (pi_range1 rfl T.n_range (pa_cons pe_int pa_nil)) (pg_name (i := 2) sc_law.nd rfl (Or.inl rfl))
        (pss_cons (ps_set (i := 3) sc_law.nd rfl (Or.inl rfl) (pe_call G_law_some_book hr_law_some_book rfl T.m_law_some_book T.F_law_some_book.kp T.b_law_some_book .nil pass0 (pa_cons (pv 1) pa_nil)))
      (pss_cons (ps_asg (pe_tup (pa_cons (pe_dget hu (pv 3) pe_str (fun _ _ => rfl)) (pa_cons (pe_call G_law_account hr_law_account rfl T.m_law_account T.F_law_account.kp T.b_law_account .nil pass0 (pa_cons (pv 1) (pa_cons (pv 3) (pa_cons pe_int pa_nil)))) (pa_cons (pe_call G_law_account hr_law_account rfl T.m_law_account T.F_law_account.kp T.b_law_account .nil pass0 (pa_cons (pv 1) (pa_cons (pv 3) (pa_cons pe_int pa_nil)))) pa_nil)))) (pg_tup rfl (pgs_cons (pg_name (i := 4) sc_law.nd rfl (Or.inr rfl)) (pgs_cons (pg_name (i := 5) sc_law.nd rfl (Or.inr rfl)) (pgs_cons (pg_name (i := 6) sc_law.nd rfl (Or.inr rfl)) pgs_nil)))))
      (pss_cons (ps_par (i := 7) (j := 8) (by rfl) sc_law.nd rfl rfl (by decide) rfl rfl (pa_cons (pe_lc (own := [("_law_number", 16)]) (by rfl) sc_law.nd (pi_tup (pv 5)) (blkOk_by (own := [("_law_number", 16)]) (N := ["_law_script", "_law_source_here", "_law_turn", "_law_world", "_law_book_here", "_law_account_here", "_law_other", "_law_prices", "_law_odd_here", "_law_k", "_law_some", "_law_value", "_law_kept", "_law_paid", "_law_both", "_law_apart", "_law_number", "_law_n"]) (sc := defScope s_law) (by decide +kernel)) (fun _ _ _ _ _ => pg_name (i := 16) sc_law.nd rfl (Or.inl rfl)) (fun _ _ _ _ _ => pts_nil) (fun _ _ _ _ _ => (pe_call G_law_of hr_law_of rfl T.m_law_of T.F_law_of.kp T.b_law_of .nil pass0 (pa_cons (pv 1) (pa_cons (pe_lst (pa_cons pe_int (pa_cons pe_int (pa_cons pe_int (pa_cons pe_int (pa_cons (pe_op op_pow pe_int pe_int) pa_nil)))))) pa_nil))))) (pa_cons (pe_call G_law_odd hr_law_odd rfl T.m_law_odd T.F_law_odd.kp T.b_law_odd .nil pass0 (pa_cons (pv 1) pa_nil)) pa_nil)) (by rfl))
      (pss_cons (ps_set (i := 9) sc_law.nd rfl (Or.inl rfl) (pe_call G_law_pick hr_law_pick rfl T.m_law_pick T.F_law_pick.kp T.b_law_pick .nil pass0 (pa_cons (pv 1) (pa_cons (pe_callB call_len_seq (by rfl) T.n_len (by decide +kernel) (pa_cons (pv 7) pa_nil)) pa_nil))))
      (pss_cons (ps_set (i := 10) sc_law.nd rfl (Or.inl rfl) (pe_lst (pa_cons (pv 7) (pa_cons (pe_callTy call_tuple_of (by rfl) T.n_tuple (by decide +kernel) (pa_cons (pv 7) pa_nil)) (pa_cons (pe_op op_catN (pv 7) (pe_lst (pa_cons pe_int pa_nil))) (pa_cons (pe_slice (show SlR _ (rSlLN K) from sl_listN) (pv 7) (po_some pe_int) po_none) (pa_cons (pv 8) (pa_cons pe_non (pa_cons pe_dnewK (pa_cons (pe_op op_catN (pe_op op_catN (pe_slice (show SlR _ (rSlLN K) from sl_listN) (pv 7) po_none (po_some (pv 9))) (pe_lst (pa_cons (pv 8) pa_nil))) (pe_slice (show SlR _ (rSlLN K) from sl_listN) (pv 7) (po_some (pe_op op_add (pv 9) pe_int)) po_none)) pa_nil))))))))))
      (pss_cons (ps_set (i := 10) sc_law.nd rfl (Or.inl rfl) (pe_op op_cat (pv 10) (pe_lst (pa_cons (pe_op op_catN (pe_op op_catN (pe_slice (show SlR _ (rSlLN K) from sl_listN) (pv 7) po_none (po_some (pv 9))) (pe_lst (pa_cons (pe_un un_neg pe_int) pa_nil))) (pe_slice (show SlR _ (rSlLN K) from sl_listN) (pv 7) (po_some (pe_op op_add (pv 9) pe_int)) po_none)) (pa_cons (pe_op op_catN (pe_op op_catN (pe_slice (show SlR _ (rSlLN K) from sl_listN) (pv 7) po_none (po_some (pv 9))) (pe_lst (pa_cons pe_bl pa_nil))) (pe_slice (show SlR _ (rSlLN K) from sl_listN) (pv 7) (po_some (pe_op op_add (pv 9) pe_int)) po_none)) (pa_cons (pe_op op_catN (pe_op op_catN (pe_slice (show SlR _ (rSlLN K) from sl_listN) (pv 7) po_none (po_some (pv 9))) (pe_lst (pa_cons (pv 8) (pa_cons (pv 8) pa_nil)))) (pe_slice (show SlR _ (rSlLN K) from sl_listN) (pv 7) (po_some (pe_op op_add (pv 9) pe_int)) po_none)) (pa_cons pe_str pa_nil)))))))
      (pss_cons (ps_for PassesOwn.never rfl (pi_list (pv 10)) (pg_name (i := 11) sc_law.nd rfl (Or.inr rfl))
        (pss_cons (ps_set (i := 12) sc_law.nd rfl (Or.inl rfl) (pe_callB (show CallR _ _ (rReprE K) from call_repr_E hg hu64) (by rfl) T.n_repr (by decide +kernel) (pa_cons (pv 11) pa_nil)))
      (pss_one (ps_if (PW.pt (pw_or (pt_cmpR op_ne (pe_callB (call_repr_Q hg hu64) (by rfl) T.n_repr (by decide +kernel) (pa_cons (pe_ref27 T rfl TB rfl hr_lam (show LamS (defScope s_law) _ from lamS_by (by decide +kernel)) rfl (fun _ _ _ _ _ => rfl) (fun A outer s H E f c' hr2 => pe_call G_cost hr2 rfl T.m_cost T.F_cost.kp T.b_cost .nil (passes_call (takes_of rfl rfl rfl rfl) (fun _ _ _ _ z => z)) (pa_cons (pe_var (i := 4) rfl (.inr (.inr rfl))) (pa_cons (pe_var (i := 5) rfl (.inr (.inr rfl))) (pa_cons (pe_var (i := 11) rfl (.inr (.inr rfl))) pa_nil))))) pa_nil)) (pe_callB (call_repr_Q hg hu64) (by rfl) T.n_repr (by decide +kernel) (pa_cons (pe_call G_law_due hr_law_due rfl T.m_law_due T.F_law_due.kp T.b_law_due .nil pass0 (pa_cons (pv 3) (pa_cons (pv 5) (pa_cons (pv 11) pa_nil)))) pa_nil)) (nomark _)) (pw_or1 (pt_cmpR op_ne (pe_callB (show CallR _ _ (rReprE K) from call_repr_E hg hu64) (by rfl) T.n_repr (by decide +kernel) (pa_cons (pv 11) pa_nil)) (pv 12) (nomark _)))))
        (pss_one (ps_ret pe_bl))
        pss_nil))))
      (pss_cons (ps_for PassesOwn.never rfl (pi_list (pe_call G_law_near_accounts hr_law_near_accounts rfl T.m_law_near_accounts T.F_law_near_accounts.kp T.b_law_near_accounts .nil pass0 (pa_cons (pv 1) (pa_cons (pv 3) (pa_cons (pv 5) pa_nil))))) (pg_name (i := 11) sc_law.nd rfl (Or.inr rfl))
        (pss_one (ps_for PassesOwn.never rfl (pi_list (pe_lst (pa_cons (pv 7) (pa_cons pe_non pa_nil)))) (pg_name (i := 13) sc_law.nd rfl (Or.inr rfl))
        (pss_one (ps_if (pt_cmpR op_ne (pe_callB (call_repr_Q hg hu64) (by rfl) T.n_repr (by decide +kernel) (pa_cons (pe_ref27 T rfl TB rfl hr_lam (show LamS (defScope s_law) _ from lamS_by (by decide +kernel)) rfl (fun _ _ _ _ _ => rfl) (fun A outer s H E f c' hr2 => pe_call G_cost hr2 rfl T.m_cost T.F_cost.kp T.b_cost .nil (passes_call (takes_of rfl rfl rfl rfl) (fun _ _ _ _ z => z)) (pa_cons (pe_var (i := 4) rfl (.inr (.inr rfl))) (pa_cons (pe_var (i := 11) rfl (.inr (.inr rfl))) (pa_cons (pe_var (i := 13) rfl (.inr (.inr rfl))) pa_nil))))) pa_nil)) (pe_callB (call_repr_Q hg hu64) (by rfl) T.n_repr (by decide +kernel) (pa_cons (pe_call G_law_due hr_law_due rfl T.m_law_due T.F_law_due.kp T.b_law_due .nil pass0 (pa_cons (pv 3) (pa_cons (pv 11) (pa_cons (pv 13) pa_nil)))) pa_nil)) (nomark _))
        (pss_one (ps_ret pe_bl))
        pss_nil)))))
      (pss_cons (ps_set (i := 14) sc_law.nd rfl (Or.inl rfl) (pe_callTy call_tuple_of (by rfl) T.n_tuple (by decide +kernel) (pa_cons (pe_lc (own := [("_law_n", 17)]) (by rfl) sc_law.nd (pi_range1 rfl T.n_range (pa_cons (pe_callB call_len_seq (by rfl) T.n_len (by decide +kernel) (pa_cons (pv 5) pa_nil)) pa_nil)) (blkOk_by (own := [("_law_n", 17)]) (N := ["_law_script", "_law_source_here", "_law_turn", "_law_world", "_law_book_here", "_law_account_here", "_law_other", "_law_prices", "_law_odd_here", "_law_k", "_law_some", "_law_value", "_law_kept", "_law_paid", "_law_both", "_law_apart", "_law_number", "_law_n"]) (sc := defScope s_law) (by decide +kernel)) (fun _ _ _ _ _ => pg_name (i := 17) sc_law.nd rfl (Or.inl rfl)) (fun _ _ _ _ _ => pts_nil) (fun _ _ _ _ _ => (pe_op op_add (pe_ix (show IxR _ (rIxT K) from ix_tup) (pv 5) (pv 17) (fun _ _ => rfl)) (pe_ix (show IxR _ (rIxT K) from ix_tup) (pv 6) (pv 17) (fun _ _ => rfl))))) pa_nil)))
      (pss_cons (ps_set (i := 15) sc_law.nd rfl (Or.inl rfl) (pe_op op_add (pe_call G_cost hr_cost rfl T.m_cost T.F_cost.kp T.b_cost .nil passN (pa_cons (pv 4) (pa_cons (pv 5) (pa_cons (pv 7) pa_nil)))) (pe_call G_cost hr_cost rfl T.m_cost T.F_cost.kp T.b_cost .nil passN (pa_cons (pv 4) (pa_cons (pv 6) (pa_cons (pv 7) pa_nil))))))
      (pss_one (ps_if (PW.pt (pw_or (pt_cmpR op_gt (pe_call G_cost hr_cost rfl T.m_cost T.F_cost.kp T.b_cost .nil passN (pa_cons (pv 4) (pa_cons (pv 14) (pa_cons (pv 7) pa_nil)))) (pv 15) (nomark _)) (pw_or1 (PW.pt (pw_and (pt_cmpR (op_eqD hr.units) (pe_call G_cancels_at hr_cancels_at rfl T.m_cancels_at T.F_cancels_at.kp T.b_cancels_at .nil passN (pa_cons (pv 4) (pa_cons (pv 5) (pa_cons (pv 6) pa_nil)))) (pe_lst pa_nil) (nomark _)) (pw_and1 (pt_cmpR op_ne (pe_call G_cost hr_cost rfl T.m_cost T.F_cost.kp T.b_cost .nil passN (pa_cons (pv 4) (pa_cons (pv 14) (pa_cons (pv 7) pa_nil)))) (pv 15) (nomark _))))))))
        (pss_one (ps_ret pe_bl))
        pss_nil)))))))))))))
      (pss_cons (ps_set (i := 4) sc_law.nd rfl (Or.inr rfl) (pe_dget hu (pe_call G_law_made hr_law_made rfl T.m_law_made T.F_law_made.kp T.b_law_made .nil pass0 (pa_cons (pe_lst (pa_cons pe_str (pa_cons pe_str (pa_cons pe_str pa_nil)))) (pa_cons (pe_lst (pa_cons (pe_tup (pa_cons pe_str (pa_cons (pe_tup (pa_cons (pe_un un_neg pe_int) (pa_cons pe_int (pa_cons pe_int pa_nil)))) pa_nil))) (pa_cons (pe_tup (pa_cons pe_str (pa_cons (pe_tup (pa_cons pe_int (pa_cons (pe_un un_neg pe_int) (pa_cons pe_int pa_nil)))) pa_nil))) pa_nil))) pa_nil))) pe_str (fun _ _ => rfl)))
      (pss_one (ps_ret (pe_cmpR (op_eqD hr.units) (pe_lst (pa_cons (pe_call G_cost hr_cost rfl T.m_cost T.F_cost.kp T.b_cost .nil passN (pa_cons (pv 4) (pa_cons (pe_tup (pa_cons pe_int (pa_cons pe_int pa_nil))) (pa_cons (pe_lst (pa_cons pe_int (pa_cons pe_int pa_nil))) pa_nil)))) (pa_cons (pe_call G_cost hr_cost rfl T.m_cost T.F_cost.kp T.b_cost .nil passN (pa_cons (pv 4) (pa_cons (pe_tup (pa_cons (pe_un un_neg pe_int) (pa_cons (pe_un un_neg pe_int) pa_nil))) (pa_cons (pe_tup (pa_cons pe_int (pa_cons pe_int pa_nil))) pa_nil)))) (pa_cons (pe_call G_cost hr_cost rfl T.m_cost T.F_cost.kp T.b_cost .nil passN (pa_cons (pv 4) (pa_cons (pe_tup (pa_cons pe_int (pa_cons pe_int pa_nil))) (pa_cons (pe_lst (pa_cons pe_int (pa_cons pe_int pa_nil))) pa_nil)))) pa_nil)))) (pe_lst (pa_cons pe_int (pa_cons pe_int (pa_cons pe_int pa_nil)))) (nomark _)))))))), ?_⟩
  have t0 : Tabs [(pp, lamQ)] H := fun q hq => by rw [List.mem_singleton.mp hq]; exact TabS.nil hT0
  have pr5 : ∀ y ∈ ([.int 0, .int 1, .int 2, .int 7, .int ((10 : Int) ^ (20 : Int).toNat)] : List V), ∃ z : Int, y = .int z ∧ 0 ≤ z ∧ z ≤ 10 ^ 20 :=
    forall_cons ⟨0, rfl, by decide, by decide⟩ (forall_cons ⟨1, rfl, by decide, by decide⟩ (forall_cons ⟨2, rfl, by decide, by decide⟩ (forall_cons ⟨7, rfl, by decide, by decide⟩ (forall_cons ⟨_, rfl, by decide, by decide⟩ forall_nil))))
  refine ⟨_, rfl, a0, ns0, rfl, hS0, hl0, fun s c H1 s1 _ _ src1 => ?_⟩
  refine ⟨_, rfl, by decide, by decide, for_range (lo := 0) (n := 4) (fun i σ M => ∃ v2 v3 v4 v5 v6 v7 v8 v9 v10 v11 v12 v13 v14 v15 : Option V, σ = [some (.ref a0), some (.ref s), v2, v3, v4, v5, v6, v7, v8, v9, v10, v11, v12, v13, v14, v15, none, none] ∧ Src M s c ∧ Tabs [(pp, lamQ)] M)
    ⟨none, none, none, none, none, none, none, none, none, none, none, none, none, none, rfl, src1, t0.ext s1⟩ ?_ ?_⟩
  · rintro i σ M hi ⟨v2, v3, v4, v5, v6, v7, v8, v9, v10, v11, v12, v13, v14, v15, rfl, S, tb⟩
    refine ⟨_, rfl, s, c, rfl, S, fun wd gs bs M1 g1 W1 l1 l2 => ?_⟩
    have S1 := g1.src
    have tb1 := tabs_go tb S g1
    obtain ⟨g, l, x, ps, ex, WX⟩ := id W1
    obtain ⟨_, _, hwd⟩ := cut_at' WX.hw
    have gK : DGet M1 wd (.str "book") (some (.ref x)) := by rw [← w_book g l x ex]; exact DGet.k (k := Sum.inr "book") hwd
    refine ⟨_, rfl, wd, _, rfl, gK, _, rfl, _, rfl, s, c, wd, 9, gs, bs, rfl, S1, W1, by decide, fun pa as M2 g2 ea la ba => ?_⟩
    have W2 := W1.go g2
    refine ⟨_, rfl, _, rfl, s, c, wd, 9, gs, bs, rfl, g2.src, W2, by decide, fun po os M3 g3 eo lo bo => ?_⟩
    refine ⟨(by show 3 ≤ sizeLine; decide), fun tp htp => ⟨tp, _, rfl, SqT.of upd_same, rfl, _, _, rfl, _, _, rfl, _, _, rfl, rfl, ?_⟩⟩
    have g13 := (g2.trans g3).then (same_new htp (.tup [.ref x, .ref pa, .ref po]))
    have ea3 := ((g3.then (same_new htp (.tup [.ref x, .ref pa, .ref po])))).tup g2.src ea
    have eo3 := same_new htp (.tup [.ref x, .ref pa, .ref po]) _ _ eo
    generalize L2.upd M3 tp (.tup [.ref x, .ref pa, .ref po]) = M4 at g13 ea3 eo3 ⊢
    have S4 := g13.src
    -- the prices
    refine ⟨_, rfl, pa, rfl, ⟨_, SqT.of ea3⟩, fun D hD => ?_⟩
    have nD := S4.ne_none hD
    refine lc_tup (xs := rowV as) (fun i M => ∃ r : List Int, (∀ b u, b ≠ s → b ≠ c → M4 b = some u → M b = some u) ∧ Src M s c ∧ M D = some (.lst (rowV r)) ∧ r.length = i ∧ ∀ z ∈ r, 0 ≤ z ∧ z ≤ 10 ^ 20) ⟨[], fun b u _ _ e => same_new hD _ _ _ e, S4.same (same_new hD _), upd_same, rfl, fun _ h => nomatch h⟩ (fun i M _ ⟨_, old, _⟩ => SqT.of (old _ _ (S4.ne_tup ea3).1 (S4.ne_tup ea3).2 ea3)) (fun i y M hy z => ?_) (fun M z => ?_)
    · obtain ⟨r, old, S, eD, lr, pr⟩ := z
      have hi : i < bs.length := by have := (List.getElem?_eq_some_iff.mp hy).1; rw [show (rowV as).length = as.length from List.length_map _] at this; omega
      refine ⟨rfl, _, rfl, _, _, rfl, rfl, ⟨by decide, by decide, by decide⟩, (by show 5 ≤ sizeLine; decide), fun q hq => ?_⟩
      have sq := same_new hq (.lst [.int 0, .int 1, .int 2, .int 7, .int ((10 : Int) ^ (20 : Int).toNat)])
      refine ⟨s, c, q, _, rfl, S.same sq, upd_same, (S.ne_none hq).2, (by show 1 ≤ 5; decide), (by show 5 < 1000000; decide), fun j yy N1 hx gx => ?_⟩
      obtain ⟨z, rfl, z0, z1⟩ := pr5 yy (List.mem_of_getElem? hx)
      have eD5 := gx.lst (S.same sq) (sq _ _ eD) nD.2
      refine ⟨_, eD5, by rw [List.length_map, lr]; exact small1000 (by omega), r ++ [z], fun b u n1 n2 e => ?_, gx.src.upd6 nD, by rw [upd_same, rowV_app], by rw [List.length_append, lr]; rfl, fun y hy => ?_⟩
      · rw [upd_ne (ne_of_none e hD)]
        exact gx.keep _ _ n1 n2 (sq _ _ (old b u n1 n2 e))
      · rcases List.mem_append.mp hy with h | h
        · exact pr y h
        · rw [List.mem_singleton.mp h]; exact ⟨z0, z1⟩
    obtain ⟨r, old, S5, eD, lr, pr⟩ := z
    rw [show (rowV as).length = as.length from List.length_map _] at lr
    have g45 : Go s c M4 M := ⟨fun b u n1 n2 e => old b u n1 n2 e, S5⟩
    refine ⟨_, rfl, s, c, rfl, S5, fun vo M6 ov g6 => ⟨_, _, rfl, ?_⟩⟩
    have eD6 := g6.lst S5 eD nD.2
    refine ⟨_, rfl, _, rfl, D, _, rfl, .inl (SqL.of eD6), s, c, (rowV r).length, rfl, g6.src, (by rw [show (rowV r).length = r.length from List.length_map _]; have := WX.G.bl; omega), fun kn M7 hk g7 => ?_⟩
    have S7 := g7.src
    have eD7 := g7.lst g6.src eD6 nD.2
    have lr30 : r.length ≤ 30 := by omega
    -- values of prices
    refine ⟨_, rfl, _, rfl, D, _, rfl, .inl ⟨SqL.of eD7, fun p1 hp1 => ?_⟩⟩
    have s1' := same_new hp1 (.tup (rowV r))
    have e1 := upd_same (H := M7) (a := p1) (o := .tup (rowV r))
    generalize L2.upd M7 p1 (.tup (rowV r)) = N1 at s1' e1 ⊢
    refine ⟨_, rfl, (by show 1 ≤ sizeLine; decide), fun q2 hq2 => ?_⟩
    have sq2 := same_new hq2 (.lst [.int 0])
    have lrV : (rowV r).length = r.length := List.length_map _
    refine cat_l (sq2 _ _ (s1' _ _ eD7)) upd_same (by rw [lrV]; show r.length + 1 ≤ 1000; omega) fun p2 N2 s2 e2 b2 => ?_
    have s02 := s1'.trans (sq2.trans s2)
    refine ⟨_, rfl, 1, rfl, ?_⟩
    try simp only [tNoPart]
    refine sl_l (s02 _ _ eD7) fun p3 N3 s3 e3 b3 => ?_
    obtain ⟨y3, c3, ly3, m3⟩ := cut_ints r (some 1) none
    rw [show rowV r = r.map V.int from rfl, c3] at e3
    refine ⟨_, rfl, fun p4 hp4 => ?_⟩
    have s4 := same_new hp4 (.dK [])
    have e4 := upd_same (H := N3) (a := p4) (o := .dK [])
    have s04 := s02.trans (s3.trans s4)
    generalize L2.upd N3 p4 (.dK []) = N4 at s4 e4 s04 ⊢
    have eD4 := s04 _ _ eD7
    refine ⟨_, rfl, ?_⟩
    try simp only [tNoPart]
    refine ⟨_, rfl, (kn : Int), rfl, ?_⟩
    refine sl_l eD4 fun ai Ai sai eai bai => ?_
    obtain ⟨yai, cai, lai, mai⟩ := cut_ints r none (some (kn : Int))
    rw [show rowV r = r.map V.int from rfl, cai] at eai
    refine ⟨_, rfl, (by show 1 ≤ sizeLine; decide), fun qi hqi => ?_⟩
    have sqi := same_new hqi (.lst [vo])
    refine cat_l (sqi _ _ eai) upd_same (by rw [List.length_map]; show yai.length + 1 ≤ 1000; omega) fun bi Bi sbi ebi bbi => ?_
    have sabi := sai.trans (sqi.trans sbi)
    refine ⟨_, rfl, _, rfl, _, _, rfl, rfl, _, rfl, ?_⟩
    try simp only [tNoPart]
    refine sl_l (sabi _ _ eD4) fun ci Ci sci eci bci => ?_
    obtain ⟨yci, cci, lci, mci⟩ := cut_ints r (some ((kn : Int) + 1)) none
    rw [show rowV r = r.map V.int from rfl, cci] at eci
    refine cat_l (sci _ _ ebi) eci (by rw [List.length_append, List.length_map, List.length_map]; show yai.length + 1 + yci.length ≤ 1000; omega) fun mi Mi smi emi bmi => ?_
    have ti := sabi.trans (sci.trans smi)
    refine ⟨(by show 8 ≤ sizeLine; decide), fun L1 hL1 => ?_⟩
    have sL1 := same_new hL1 (.lst [.ref D, .ref p1, .ref p2, .ref p3, vo, .non, .ref p4, .ref mi])
    have eL1 := upd_same (H := Mi) (a := L1) (o := .lst [.ref D, .ref p1, .ref p2, .ref p3, vo, .non, .ref p4, .ref mi])
    generalize L2.upd Mi L1 (.lst [.ref D, .ref p1, .ref p2, .ref p3, vo, .non, .ref p4, .ref mi]) = N5 at sL1 eL1 ⊢
    have s05 := s04.trans (ti.trans sL1)
    have eD5 := s05 _ _ eD7
    refine ⟨_, rfl, ?_⟩
    refine ⟨_, rfl, ?_⟩
    try simp only [tNoPart]
    refine ⟨_, rfl, (kn : Int), rfl, ?_⟩
    refine sl_l eD5 fun aj Aj saj eaj baj => ?_
    obtain ⟨yaj, caj, laj, maj⟩ := cut_ints r none (some (kn : Int))
    rw [show rowV r = r.map V.int from rfl, caj] at eaj
    refine ⟨_, rfl, (by show 1 ≤ sizeLine; decide), fun qj hqj => ?_⟩
    have sqj := same_new hqj (.lst [.int (-1)])
    refine cat_l (sqj _ _ eaj) upd_same (by rw [List.length_map]; show yaj.length + 1 ≤ 1000; omega) fun bj Bj sbj ebj bbj => ?_
    have sabj := saj.trans (sqj.trans sbj)
    refine ⟨_, rfl, _, rfl, _, _, rfl, rfl, _, rfl, ?_⟩
    try simp only [tNoPart]
    refine sl_l (sabj _ _ eD5) fun cj Cj scj ecj bcj => ?_
    obtain ⟨ycj, ccj, lcj, mcj⟩ := cut_ints r (some ((kn : Int) + 1)) none
    rw [show rowV r = r.map V.int from rfl, ccj] at ecj
    refine cat_l (scj _ _ ebj) ecj (by rw [List.length_append, List.length_map, List.length_map]; show yaj.length + 1 + ycj.length ≤ 1000; omega) fun mj Mj smj emj bmj => ?_
    have tj := sabj.trans (scj.trans smj)
    have eDj := tj _ _ eD5
    refine ⟨_, rfl, ?_⟩
    try simp only [tNoPart]
    refine ⟨_, rfl, (kn : Int), rfl, ?_⟩
    refine sl_l eDj fun ak Ak sak eak bak => ?_
    obtain ⟨yak, cak, lak, mak⟩ := cut_ints r none (some (kn : Int))
    rw [show rowV r = r.map V.int from rfl, cak] at eak
    refine ⟨(by show 1 ≤ sizeLine; decide), fun qk hqk => ?_⟩
    have sqk := same_new hqk (.lst [.bl true])
    refine cat_l (sqk _ _ eak) upd_same (by rw [List.length_map]; show yak.length + 1 ≤ 1000; omega) fun bk Bk sbk ebk bbk => ?_
    have sabk := sak.trans (sqk.trans sbk)
    refine ⟨_, rfl, _, rfl, _, _, rfl, rfl, _, rfl, ?_⟩
    try simp only [tNoPart]
    refine sl_l (sabk _ _ eDj) fun ck Ck sck eck bck => ?_
    obtain ⟨yck, cck, lck, mck⟩ := cut_ints r (some ((kn : Int) + 1)) none
    rw [show rowV r = r.map V.int from rfl, cck] at eck
    refine cat_l (sck _ _ ebk) eck (by rw [List.length_append, List.length_map, List.length_map]; show yak.length + 1 + yck.length ≤ 1000; omega) fun mk Mk smk emk bmk => ?_
    have tk := sabk.trans (sck.trans smk)
    have eDk := tk _ _ eDj
    refine ⟨_, rfl, ?_⟩
    try simp only [tNoPart]
    refine ⟨_, rfl, (kn : Int), rfl, ?_⟩
    refine sl_l eDk fun al Al sal eal bal => ?_
    obtain ⟨yal, cal, lal, mal⟩ := cut_ints r none (some (kn : Int))
    rw [show rowV r = r.map V.int from rfl, cal] at eal
    refine ⟨_, rfl, _, rfl, (by show 2 ≤ sizeLine; decide), fun ql hql => ?_⟩
    have sql := same_new hql (.lst [vo, vo])
    refine cat_l (sql _ _ eal) upd_same (by rw [List.length_map]; show yal.length + 2 ≤ 1000; omega) fun bl Bl sbl ebl bbl => ?_
    have sabl := sal.trans (sql.trans sbl)
    refine ⟨_, rfl, _, rfl, _, _, rfl, rfl, _, rfl, ?_⟩
    try simp only [tNoPart]
    refine sl_l (sabl _ _ eDk) fun cl Cl scl ecl bcl => ?_
    obtain ⟨ycl, ccl, lcl, mcl⟩ := cut_ints r (some ((kn : Int) + 2)) none
    rw [show rowV r = r.map V.int from rfl, ccl] at ecl
    refine cat_l (scl _ _ ebl) ecl (by rw [List.length_append, List.length_map, List.length_map]; show yal.length + 2 + ycl.length ≤ 1000; omega) fun ml Ml sml eml bml => ?_
    have tl := sabl.trans (scl.trans sml)
    refine ⟨(by show 4 ≤ sizeLine; decide), fun L2' hL2 => ?_⟩
    have sL2 := same_new hL2 (.lst [.ref mj, .ref mk, .ref ml, .str "12"])
    have eL2 := upd_same (H := Ml) (a := L2') (o := .lst [.ref mj, .ref mk, .ref ml, .str "12"])
    generalize L2.upd Ml L2' (.lst [.ref mj, .ref mk, .ref ml, .str "12"]) = N6 at sL2 eL2 ⊢
    have s56 : Same N5 N6 := tj.trans (tk.trans (tl.trans sL2))
    refine ⟨L1, L2', _, _, rfl, rfl, s56 _ _ eL1, eL2, (by show 12 ≤ sizeLine; decide), fun F hF => ?_⟩
    have sF := same_new hF (.lst ([.ref D, .ref p1, .ref p2, .ref p3, vo, .non, .ref p4, .ref mi] ++ [.ref mj, .ref mk, .ref ml, .str "12"]))
    have eF := upd_same (H := N6) (a := F) (o := .lst ([.ref D, .ref p1, .ref p2, .ref p3, vo, .non, .ref p4, .ref mi] ++ [.ref mj, .ref mk, .ref ml, .str "12"]))
    generalize L2.upd N6 F (.lst ([.ref D, .ref p1, .ref p2, .ref p3, vo, .non, .ref p4, .ref mi] ++ [.ref mj, .ref mk, .ref ml, .str "12"])) = N9 at sF eF ⊢
    have s59 := s56.trans sF
    have s79 := s05.trans s59
    have g79 : Go s c M7 N9 := Go.of S7 s79
    have gAll : Go s c M1 N9 := g13.trans (g45.trans (g6.trans (g7.trans g79)))
    have W9 : WorldX T.C_Book N9 wd g l x ps ex gs bs := (WX.same (cut_go gAll)).same cut_same
    have S9 := g79.src
    have tb9 := tabs_go tb1 S1 gAll
    have ea9 : N9 pa = some (.tup (as.map V.int)) := (g45.trans (g6.trans (g7.trans g79))).tup S4 ea3
    have eo9 : N9 po = some (.tup (os.map V.int)) := (g45.trans (g6.trans (g7.trans g79))).tup S4 eo3
    have eD9 : N9 D = some (.lst (r.map V.int)) := s79 _ _ eD7
    obtain ⟨dO, dqO, smO, bgO, loO, hiO⟩ : ∃ d, Dq N9 vo d ∧ Sm 2 40 d ∧ BigD d ∧ -(10 ^ 40) < intD d ∧ intD d < 10 ^ 40 := by
      obtain ⟨d, dq, _, _, sm, bg, b1, b2⟩ := ov
      exact ⟨d, (dq.same (cut_go (g7.trans g79))).same cut_same, sm, bg, b1, b2⟩
    have sm3 : Sm 3 100 dO := ⟨smO.sh, Nat.le_trans smO.dp (by decide), smO.lf, Nat.le_trans smO.bk (by decide)⟩
    have sm0 : ∀ {z : Int}, z.natAbs < 10 ^ 21 → Sm 3 100 (.int z) := fun {z} h => by
      have q := sm_int21 h
      exact ⟨q.sh, Nat.le_trans q.dp (by decide), q.lf, Nat.le_trans q.bk (by decide)⟩
    have all : ∀ y ∈ ([.ref D, .ref p1, .ref p2, .ref p3, vo, .non, .ref p4, .ref mi] ++ [.ref mj, .ref mk, .ref ml, .str "12"] : List V), PrV N9 y := by
      have hsm : Sm 4 700 (.list (r.map PyData.int)) := by
        have q := (Sm.lift (sm_ints21 pr) (Nat.zero_le 3) (by omega : r.length ≤ 700)).list
        exact q
      have hst : Sm 4 700 (.tuple (r.map PyData.int)) := by
        have q := (Sm.lift (sm_ints21 pr) (Nat.zero_le 3) (by omega : r.length ≤ 700)).tuple
        exact q
      have prs : ∀ {ys : List Int}, (∀ z ∈ ys, z ∈ r) → ∀ z ∈ ys, 0 ≤ z ∧ z ≤ 10 ^ 20 := fun h z hz => pr z (h z hz)
      refine forall_cons ⟨_, .inr ⟨D, r, rfl, eD9, rfl⟩, hsm, big_pr pr⟩ (forall_cons ⟨_, .inl (.tup ((s02.trans (s3.trans s4)).trans (ti.trans (sL1.trans s59)) |> fun _ => ?_) (dq_ints r)), hst, big_pr pr⟩ (forall_cons ?_ (forall_cons ?_ (forall_cons ⟨dO, .inl dqO, ⟨smO.sh, Nat.le_trans smO.dp (by decide), smO.lf, Nat.le_trans smO.bk (by decide)⟩, bgO⟩ (forall_cons ⟨_, .inl .non, ⟨rfl, Nat.zero_le _, rfl, Nat.zero_le _⟩, big_no rfl⟩ (forall_cons ?_ (forall_cons ?_ (forall_cons ?_ (forall_cons ?_ (forall_cons ?_ (forall_cons ?_ forall_nil)))))))))))
      · exact s59 _ _ (sL1 _ _ (ti _ _ (s4 _ _ (s3 _ _ (s2 _ _ (sq2 _ _ e1))))))
      · exact pr_one (v := .int 0) (bs := []) (s59 _ _ (sL1 _ _ (ti _ _ (s4 _ _ (s3 _ _ (by rw [e2]; show some (HO.lst (r.map V.int ++ [.int 0])) = some (HO.lst (r.map V.int ++ [.int 0] ++ [])); rw [List.append_nil])))))) b2 (.int 0) (sm0 (by decide)) (by decide) (by decide) pr (fun _ h => nomatch h) (by omega) (Nat.zero_le _)
      · exact pr_mix (as := y3) (bs := []) (vs := []) (ds := []) (s59 _ _ (sL1 _ _ (ti _ _ (s4 _ _ (by rw [e3, List.append_nil, List.map_nil, List.append_nil]))))) b3 .nil (prs m3) (fun _ h => nomatch h) (by omega) (Nat.zero_le _) (SmA.nil.up (Nat.zero_le _)) (fun _ h => nomatch h)
      · exact ⟨_, .inl (.dct (s59 _ _ (sL1 _ _ (ti _ _ e4))) .none), ⟨rfl, by decide, rfl, by decide⟩, big_no rfl⟩
      · exact pr_one (s59 _ _ (sL1 _ _ emi)) bmi dqO sm3 loO hiO (prs mai) (prs mci) (by omega) (by omega)
      · exact pr_one (v := .int (-1)) (sF _ _ (sL2 _ _ (tl _ _ (tk _ _ emj)))) bmj (.int (-1)) (sm0 (by decide)) (by decide) (by decide) (prs maj) (prs mcj) (by omega) (by omega)
      · exact pr_one (v := .bl true) (sF _ _ (sL2 _ _ (tl _ _ emk))) bmk (.bl true) ⟨rfl, Nat.zero_le _, rfl, Nat.zero_le _⟩ zlo zhi (prs mak) (prs mck) (by omega) (by omega)
      · exact pr_two (sF _ _ (sL2 _ _ eml)) bml dqO sm3 loO hiO (prs mal) (prs mcl) (by omega) (by omega)
      · exact ⟨_, .inl (.str _), ⟨rfl, Nat.zero_le _, by decide +kernel, by decide +kernel⟩, big_no rfl⟩
    generalize ([.ref D, .ref p1, .ref p2, .ref p3, vo, .non, .ref p4, .ref mi] ++ [.ref mj, .ref mk, .ref ml, .str "12"] : List V) = vals at all eF ⊢
    have lb100 : bs.length ≤ 100 := Nat.le_trans l2 (by decide)
    have dqA : ∀ {N : Hp}, ExtN N9 N → Dq N (.ref pa) (.tuple (as.map PyData.int)) := fun {N} e => .tup (e _ _ ea9 (fun _ z => nomatch z)) (dq_ints as)
    have bigA : BigD (.tuple (as.map PyData.int)) := fun y hy => by
      obtain ⟨z, hz, rfl⟩ := List.mem_map.mp hy
      have := ba z hz
      show -(10 ^ 40) < z ∧ z < 10 ^ 40
      omega
    have rf : ExtN N9 N9 := ExtN.of (Same.refl _)
    refine ⟨_, rfl, F, rfl, ⟨_, SqL.of eF⟩, for_list (K := K) (a := F) (xs := vals) (fun j σ N => ∃ w11 w12 : Option V, σ = [some (.ref a0), some (.ref s), some (.int (0 + (i : Int))), some (.ref wd), some (.ref x), some (.ref pa), some (.ref po), some (.ref D), some vo, some (.int (kn : Nat)), some (.ref F), w11, w12, v13, v14, v15, none, none] ∧ ExtN N9 N ∧ Tabs [(pp, lamQ)] N)
      ⟨_, _, rfl, rf, tb9⟩ (fun j σ N _ ⟨_, _, _, z, _⟩ => SqL.of (z _ _ eF (fun _ z => nomatch z))) (fun j y σ N hy z => ?_) (fun σ N z => ?_)⟩
    · obtain ⟨w11, w12, rfl, eN, tN⟩ := z
      obtain ⟨d, dv, sm, bg⟩ := all y (List.mem_of_getElem? hy)
      have dvN := dv.ext eN
      obtain ⟨cs1, cs2, cs3⟩ := costD_sm (n := bs.length) lb100 bigA bg
      refine ⟨_, rfl, repr_vw dvN sm.sh (Nat.le_trans sm.dp (by decide)) (sm.fits (by decide)) ?_⟩
      refine lam_cost tN (W9.bk.ext eN) lb100 (.inl (dqA eN)) dvN bigA bg (fun E H1 R h => ⟨_, rfl, _, rfl, _, rfl, h⟩) fun r1 R1 x1 t1 d1 => ?_
      refine ⟨_, _, rfl, d1, cs1, cs2, cs3, ?_⟩
      have eN1 := eN.trans x1
      refine ⟨_, rfl, _, rfl, _, rfl, wd, g, l, x, ps, ex, gs, bs, .ref pa, y, _, d, rfl, W9.ext eN1, .inl (dqA eN1), dv.ext eN1, bigA, bg, fun r2 R2 x2 d2 => ?_⟩
      refine ⟨_, _, rfl, d2, cs1, cs2, cs3, ?_⟩
      refine ⟨rfl, _, rfl, iteN (fun h => absurd rfl h) fun _ => ?_⟩
      have eN2 := eN1.trans (.of x2)
      refine ⟨_, rfl, repr_vw (dv.ext eN2) sm.sh (Nat.le_trans sm.dp (by decide)) (sm.fits (by decide)) ?_⟩
      refine ⟨_, rfl, rfl, _, rfl, iteN (fun h => absurd rfl h) fun _ => ?_⟩
      exact ⟨_, _, rfl, eN2, t1.ext x2⟩
    · obtain ⟨w11, w12, rfl, eN, tN⟩ := z
      have SN := S9.ext eN
      have l20 : as.length ≤ 20 := by omega
      refine ⟨_, rfl, _, rfl, _, rfl, s, c, wd, pa, as, rfl, SN, eN _ _ ea9 (fun _ z => nomatch z), l20, (fun z hz => by have := ba z hz; omega), fun ND nvs R0 gR hND eND lND near => ?_⟩
      have tR := tabs_go tN SN gR
      have WXc : WorldX T.C_Book (cutH s c R0) wd g l x ps ex gs bs := ((WX.same (cut_go gAll)).ext (cut_ext eN)).same (cut_go gR)
      have WR : WorldX T.C_Book R0 wd g l x ps ex gs bs := WXc.same cut_same
      have eaR : R0 pa = some (.tup (as.map V.int)) := gR.tup SN (eN _ _ ea9 (fun _ z => nomatch z))
      have eoR : R0 po = some (.tup (os.map V.int)) := gR.tup SN (eN _ _ eo9 (fun _ z => nomatch z))
      have eDR : R0 D = some (.lst (r.map V.int)) := gR.lst SN (eN _ _ eD9 (fun _ z => nomatch z)) nD.2
      have SR := gR.src
      have rfR : ExtN R0 R0 := ExtN.of (Same.refl _)
      have nearR : ∀ y ∈ nvs, PrV R0 y := fun y hy => by
        obtain ⟨d, dq, sm, bg⟩ := near y hy
        exact ⟨d, .inl ((dq.same cut_same).same cut_same), ⟨sm.sh, Nat.le_trans sm.dp (by decide), sm.lf, Nat.le_trans sm.bk (by decide)⟩, bg⟩
      have paidR : ∀ y ∈ ([.ref D, .non] : List V), ∃ d, Vw R0 y d ∧ BigD d := forall_cons ⟨_, .inr ⟨D, r, rfl, eDR, rfl⟩, big_pr pr⟩ (forall_cons ⟨_, .inl .non, big_no rfl⟩ forall_nil)
      clear all
      refine ⟨ND, rfl, ⟨_, SqL.of eND⟩, for_list (K := K) (a := ND) (xs := nvs) (fun j σ N => ∃ u11 u13 : Option V, σ = [some (.ref a0), some (.ref s), some (.int (0 + (i : Int))), some (.ref wd), some (.ref x), some (.ref pa), some (.ref po), some (.ref D), some vo, some (.int (kn : Nat)), some (.ref F), u11, w12, u13, v14, v15, none, none] ∧ ExtN R0 N ∧ Tabs [(pp, lamQ)] N)
        ⟨_, _, rfl, rfR, tR⟩ (fun j σ N _ ⟨_, _, _, z, _⟩ => SqL.of (z _ _ eND (fun _ z => nomatch z))) (fun j y σ N hy z => ?_) (fun σ N z => ?_)⟩
      · obtain ⟨u11, u13, rfl, eN0, tN0⟩ := z
        obtain ⟨d, dv, sm, bg⟩ := nearR y (List.mem_of_getElem? hy)
        refine ⟨_, rfl, (by show 2 ≤ sizeLine; decide), fun qn hqn => ?_⟩
        have sqn := same_new hqn (.lst [.ref D, .non])
        have eqn := upd_same (H := N) (a := qn) (o := .lst [.ref D, .non])
        have eN3 := eN0.trans (.of sqn)
        have tN3 := tN0.ext sqn
        generalize L2.upd N qn (.lst [.ref D, .non]) = N3' at eqn eN3 tN3 ⊢
        have rf3 : ExtN N3' N3' := ExtN.of (Same.refl _)
        refine ⟨qn, rfl, ⟨_, SqL.of eqn⟩, for_list (K := K) (a := qn) (xs := [.ref D, .non]) (fun j σ N => ∃ u13 : Option V, σ = [some (.ref a0), some (.ref s), some (.int (0 + (i : Int))), some (.ref wd), some (.ref x), some (.ref pa), some (.ref po), some (.ref D), some vo, some (.int (kn : Nat)), some (.ref F), some y, w12, u13, v14, v15, none, none] ∧ ExtN N3' N ∧ Tabs [(pp, lamQ)] N)
          ⟨_, rfl, rf3, tN3⟩ (fun j σ N _ ⟨_, _, z, _⟩ => SqL.of (z _ _ eqn (fun _ z => nomatch z))) (fun j y2 σ N hy2 z => ?_) (fun σ N z => ?_)⟩
        · obtain ⟨u13, rfl, eN4, tN4⟩ := z
          obtain ⟨d2, dv2, bg2⟩ := paidR y2 (List.mem_of_getElem? hy2)
          obtain ⟨cs1, cs2, cs3⟩ := costD_sm (n := bs.length) lb100 bg bg2
          have eN5 := eN3.trans eN4
          refine lam_cost tN4 (WR.bk.ext eN5) lb100 (dv.ext eN5) (dv2.ext eN5) bg bg2 (fun E H1 R h => ⟨_, rfl, _, rfl, _, rfl, h⟩) fun r1 R1 x1 t1 d1 => ?_
          refine ⟨_, _, rfl, d1, cs1, cs2, cs3, ?_⟩
          have eN6 := eN5.trans x1
          refine ⟨_, rfl, _, rfl, _, rfl, wd, g, l, x, ps, ex, gs, bs, y, y2, d, d2, rfl, WR.ext eN6, dv.ext eN6, dv2.ext eN6, bg, bg2, fun r2 R2 x2 dr2 => ?_⟩
          refine ⟨_, _, rfl, dr2, cs1, cs2, cs3, ?_⟩
          refine ⟨rfl, _, rfl, iteN (fun h => absurd rfl h) fun _ => ?_⟩
          exact ⟨_, rfl, (eN4.trans x1).trans (.of x2), t1.ext x2⟩
        · obtain ⟨u13, rfl, eN4, tN4⟩ := z
          exact ⟨_, _, rfl, eN3.trans eN4, tN4⟩
      · obtain ⟨u11, u13, rfl, eN0, tN0⟩ := z
        have eaN := eN0 _ _ eaR (fun _ z => nomatch z)
        have eoN := eN0 _ _ eoR (fun _ z => nomatch z)
        have lao : as.length = os.length := by omega
        have lz : (List.zipWith (· + ·) as os).length = as.length := by rw [List.length_zipWith]; omega
        refine ⟨_, rfl, pa, _, rfl, .inr (SqT.of eaN), _, rfl, (by rw [List.length_map]; omega), (by rw [List.length_map]; omega), fun Dz hDz => ?_⟩
        rw [List.length_map, Int.toNat_natCast]
        refine lc_range (lo := 0) (n := as.length) (Lc N Dz ((List.zipWith (· + ·) as os).map V.int)) (Lc.zero hDz) (fun i N' hi z => ?_) (fun N' z => ?_)
        · obtain ⟨u, hu⟩ : ∃ u, as[i]? = some u := ⟨_, List.getElem?_eq_getElem hi⟩
          obtain ⟨v, hv⟩ : ∃ v, os[i]? = some v := ⟨_, List.getElem?_eq_getElem (by omega)⟩
          refine ⟨rfl, _, rfl, _, rfl, pa, _, _, _, rfl, rfl, SqT.of (z.1 _ _ eaN), (by rw [Int.zero_add]; exact atI_nat (mapM hu)), _, rfl, _, rfl, po, _, _, _, rfl, rfl, SqT.of (z.1 _ _ eoN), (by rw [Int.zero_add]; exact atI_nat (mapM hv)), _, _, rfl, rfl, ?_⟩
          exact Lc.lay hDz z (mapM (by rw [List.getElem?_zipWith, hu, hv])) (by rw [List.length_map, lz]; omega)
        obtain ⟨sZ, eZ⟩ := z.all (by rw [List.length_map, lz])
        refine ⟨Dz, _, rfl, .inl ⟨SqL.of eZ, fun pz hpz => ?_⟩⟩
        have spz := same_new hpz (.tup ((List.zipWith (· + ·) as os).map V.int))
        have epz := upd_same (H := N') (a := pz) (o := .tup ((List.zipWith (· + ·) as os).map V.int))
        have sNz := sZ.trans spz
        have eNz := eN0.trans (.of sNz)
        have tNz := tN0.ext sNz
        generalize L2.upd N' pz (.tup ((List.zipWith (· + ·) as os).map V.int)) = N7 at epz eNz tNz ⊢
        have ea7 := eNz _ _ eaR (fun _ z => nomatch z)
        have eo7 := eNz _ _ eoR (fun _ z => nomatch z)
        have eD7' := eNz _ _ eDR (fun _ z => nomatch z)
        have bk7 := WR.bk.ext eNz
        have baA : ∀ z ∈ as, -(100) ≤ z ∧ z ≤ 100 := fun z hz => by have := ba z hz; omega
        have baO : ∀ z ∈ os, -(100) ≤ z ∧ z ≤ 100 := fun z hz => by have := bo z hz; omega
        have baZ : ∀ z ∈ List.zipWith (· + ·) as os, -(100) ≤ z ∧ z ≤ 100 := fun z hz => by
          obtain ⟨j, hj⟩ := List.getElem?_of_mem hz
          rw [List.getElem?_zipWith] at hj
          cases h1 : as[j]? with
          | none => rw [h1] at hj; cases hj
          | some u =>
            cases h2 : os[j]? with
            | none => rw [h1, h2] at hj; cases hj
            | some v =>
              rw [h1, h2] at hj
              cases hj
              have := ba u (List.mem_of_getElem? h1)
              have := bo v (List.mem_of_getElem? h2)
              omega
        refine ⟨_, rfl, _, rfl, _, rfl, ?_⟩
        simp only [tNil, List.cons_append, List.nil_append]
        refine cost_told bk7 lb100 ea7 eD7' la (by omega) baA pr fun Q1 sQ1 => ?_
        refine ⟨_, rfl, _, rfl, _, rfl, ?_⟩
        try simp only [tNil, List.cons_append, List.nil_append]
        refine cost_told (bk7.same sQ1) lb100 (sQ1 _ _ eo7) (sQ1 _ _ eD7') lo (by omega) baO pr fun Q2 sQ2 => ?_
        refine ⟨_, _, rfl, rfl, ?_⟩
        have sQ := sQ1.trans sQ2
        refine ⟨_, rfl, _, rfl, _, rfl, ?_⟩
        try simp only [tNil, List.cons_append, List.nil_append]
        refine cost_told (bk7.same sQ) lb100 (sQ _ _ epz) (sQ _ _ eD7') (by omega) (by omega) baZ pr fun Q3 sQ3 => ?_
        have sQ' := sQ.trans sQ3
        have tri := cost_tri (as := as) (os := os) (ps := r) lao (by omega) (fun z hz => (pr z hz).1)
        refine ⟨_, rfl, _, _, rfl, rfl, _, rfl, iteD (fun z => absurd z (by omega)) (fun _ => ?_)⟩
        refine ⟨_, rfl, _, rfl, _, rfl, x, pa, po, gs, bs, as, os, rfl, bk7.same sQ', lb100, sQ' _ _ ea7, sQ' _ _ eo7, la, lo, fun Dn ns Q4 sQ4 eDn cc ln inB => ⟨Nat.zero_le _, fun q0 hq0 => ?_⟩⟩
        have sq0 := same_new hq0 (.lst [])
        have sQ5 := (sQ'.trans sQ4).trans sq0
        have layN := lay_strs (xs := ns) fun q hq => by
          obtain ⟨b, hb, rfl⟩ := List.mem_map.mp (inB q hq)
          exact (WX.G.bw b hb).1
        have fin : ∀ {M : Hp}, Same N7 M → Src M s c ∧ Tabs [(pp, lamQ)] M := fun {M} e => ⟨SR.ext (eNz.trans (.of e)), tNz.ext e⟩
        refine ⟨_, .list [], .lst (SqL.of (sq0 _ _ eDn)) (dp_strs _), .lst (SqL.of upd_same) .nil, layN, (by decide +kernel), _, rfl, ?_⟩
        cases hns : ns with
        | cons n0 nr =>
          rw [show PyData.eqv (.list ((n0 :: nr).map PyData.str)) (.list []) = false from rfl]
          exact iteF (iteF ⟨_, _, _, _, _, _, _, _, _, _, _, _, _, _, rfl, fin sQ5⟩)
        | nil =>
          have eqc := cost_sum (as := as) (os := os) (ps := r) lao (by omega) (cc hns)
          rw [show PyData.eqv (.list (([] : List Str).map PyData.str)) (.list []) = true from rfl]
          refine iteT ⟨_, rfl, _, rfl, _, rfl, ?_⟩
          try simp only [tNil, List.cons_append, List.nil_append]
          refine cost_told (bk7.same sQ5) lb100 (sQ5 _ _ epz) (sQ5 _ _ eD7') (by omega) (by omega) baZ pr fun Q6 sQ6 => ?_
          refine ⟨_, rfl, rfl, _, rfl, iteN (fun h => absurd (congrArg V.int eqc) h) fun _ => ?_⟩
          exact ⟨_, _, _, _, _, _, _, _, _, _, _, _, _, _, rfl, fin (sQ5.trans sQ6)⟩
  · rintro σ M ⟨v2, v3, v4, v5, v6, v7, v8, v9, v10, v11, v12, v13, v14, v15, rfl, S, tb⟩
    refine ⟨(by show 3 ≤ sizeLine; decide), fun pg hpg => ⟨_, rfl, (by show 3 ≤ sizeLine; decide), fun r1 hr1 => ⟨(by show 2 ≤ sizeLine; decide), fun t1 ht1 => ⟨_, rfl, (by show 3 ≤ sizeLine; decide), fun r2 hr2 => ⟨(by show 2 ≤ sizeLine; decide), fun t2 ht2 => ⟨(by show 2 ≤ sizeLine; decide), fun pl hpl => ?_⟩⟩⟩⟩⟩⟩
    have sg := same_new hpg (.lst [.str "a", .str "b", .str "c"])
    have eg := upd_same (H := M) (a := pg) (o := .lst [.str "a", .str "b", .str "c"])
    generalize L2.upd M pg (.lst [.str "a", .str "b", .str "c"]) = M1 at *
    have sr1 := same_new hr1 (.tup [.int (-2), .int 1, .int 0])
    have er1 := upd_same (H := M1) (a := r1) (o := .tup [.int (-2), .int 1, .int 0])
    generalize L2.upd M1 r1 (.tup [.int (-2), .int 1, .int 0]) = M2 at *
    have st1 := same_new ht1 (.tup [.str "p", .ref r1])
    have et1 := upd_same (H := M2) (a := t1) (o := .tup [.str "p", .ref r1])
    generalize L2.upd M2 t1 (.tup [.str "p", .ref r1]) = M3 at *
    have sr2 := same_new hr2 (.tup [.int 0, .int (-3), .int 1])
    have er2 := upd_same (H := M3) (a := r2) (o := .tup [.int 0, .int (-3), .int 1])
    generalize L2.upd M3 r2 (.tup [.int 0, .int (-3), .int 1]) = M4 at *
    have st2 := same_new ht2 (.tup [.str "q", .ref r2])
    have et2 := upd_same (H := M4) (a := t2) (o := .tup [.str "q", .ref r2])
    generalize L2.upd M4 t2 (.tup [.str "q", .ref r2]) = M5 at *
    have sl := same_new hpl (.lst [.ref t1, .ref t2])
    have el := upd_same (H := M5) (a := pl) (o := .lst [.ref t1, .ref t2])
    generalize L2.upd M5 pl (.lst [.ref t1, .ref t2]) = M6 at *
    have s26 : Same M2 M6 := st1.trans (sr2.trans (st2.trans sl))
    have b1 : BrAt M6 t1 ("p", [-2, 1, 0]) := ⟨r1, (sr2.trans (st2.trans sl)) _ _ et1, s26 _ _ er1⟩
    have b2 : BrAt M6 t2 ("q", [0, -3, 1]) := ⟨r2, sl _ _ et2, (st2.trans sl) _ _ er2⟩
    have bb : BrsAt M6 [t1, t2] bs3 := BrsAt.snoc (BrsAt.snoc BrsAt.nil b1) b2
    refine ⟨pg, pl, [t1, t2], gs3, bs3, rfl, (sr1.trans s26) _ _ eg, el, bb, good3, fun wd x N s8 hwd W Wc => ?_⟩
    have gK : DGet N wd (.str "book") (some (.ref x)) := by rw [← w_book pg pl x []]; exact DGet.k (k := Sum.inr "book") W.hw
    refine ⟨wd, _, rfl, gK, ?_⟩
    have bk := W.bk
    refine ⟨_, rfl, (by show 2 ≤ sizeLine; decide), fun a1 ha1 => ⟨(by show 2 ≤ sizeLine; decide), fun d1 hd1 => ?_⟩⟩
    have z1 := (same_new ha1 (.tup [.int 3, .int 1])).trans (same_new hd1 (.lst [.int 5, .int 2]))
    try simp only [tNil, List.cons_append, List.nil_append]
    refine cost_told (as := [3, 1]) (r := [5, 2]) (bk.same z1) (by decide) (same_new hd1 _ _ _ upd_same) upd_same rfl rfl (by decide) (by decide) fun N2 z2 => ?_
    have z12 := z1.trans z2
    refine ⟨_, rfl, _, rfl, _, rfl, (by show 2 ≤ sizeLine; decide), fun a2 ha2 => ⟨(by show 2 ≤ sizeLine; decide), fun d2 hd2 => ?_⟩⟩
    have z3 := z12.trans ((same_new ha2 (.tup [.int (-3), .int (-1)])).trans (same_new hd2 (.tup [.int 5, .int 2])))
    try simp only [tNil, List.cons_append, List.nil_append]
    refine cost_toldT (as := [-3, -1]) (r := [5, 2]) (bk.same z3) (by decide) (same_new hd2 _ _ _ upd_same) upd_same rfl rfl (by decide) (by decide) fun N3 z4 => ?_
    have z34 := z3.trans z4
    refine ⟨_, rfl, (by show 2 ≤ sizeLine; decide), fun a3 ha3 => ⟨(by show 2 ≤ sizeLine; decide), fun d3 hd3 => ?_⟩⟩
    have z5 := z34.trans ((same_new ha3 (.tup [.int 0, .int 0])).trans (same_new hd3 (.lst [.int 5, .int 2])))
    try simp only [tNil, List.cons_append, List.nil_append]
    refine cost_told (as := [0, 0]) (r := [5, 2]) (bk.same z5) (by decide) (same_new hd3 _ _ _ upd_same) upd_same rfl rfl (by decide) (by decide) fun N4 z6 => ?_
    refine ⟨(by show 3 ≤ sizeLine; decide), fun L hL => ⟨(by show 3 ≤ sizeLine; decide), fun L' hL' => ?_⟩⟩
    refine ⟨.list [.int 17, .int 17, .int 0], .list [.int 17, .int 17, .int 0], .lst (SqL.of (same_new hL' _ _ _ upd_same)) (.cons (.int _) (.cons (.int _) (.cons (.int _) .nil))), .lst (SqL.of upd_same) (.cons (.int _) (.cons (.int _) (.cons (.int _) .nil))), by decide +kernel, by decide +kernel, ?_⟩
    exact k _
end
end My

namespace My
open PySem PySem.Spec PyProof.Rows L2
theorem tx_mk {K : PySem.W.Frag} {h : Heap} {mg : Str → Option Value} (X : K.In h) (G : h.Ns mainGlobals mg)
    {fa f_wall f_is_word f_is_integer f_is_number f_check_account f_cost f_cost_of f_check_prices f_cancels_at f_wrong_goods f_wrong_barters f_wrong_barter f_wrong_row f_is_mixed f_law_wrong_account f_law_source f_law_pick f_law_names f_law_made f_law_of f_law_mixed f_law_any_row f_law_any_book f_law_tree f_law_leaves f_law_forked f_law_book f_law_plus f_law_summed f_law_account f_law_some_book f_law_odd f_law_near_accounts f_law_caught f_law_due f_law : Addr}
    {od_wall an_wall od_is_word an_is_word od_is_integer an_is_integer od_is_number an_is_number od_check_account an_check_account od_cost an_cost od_cost_of an_cost_of od_check_prices an_check_prices od_cancels_at an_cancels_at od_wrong_goods an_wrong_goods od_wrong_barters an_wrong_barters od_wrong_barter an_wrong_barter od_wrong_row an_wrong_row od_is_mixed an_is_mixed od_law_wrong_account an_law_wrong_account od_law_source an_law_source od_law_pick an_law_pick od_law_names an_law_names od_law_made an_law_made od_law_of an_law_of od_law_mixed an_law_mixed od_law_any_row an_law_any_row od_law_any_book an_law_any_book od_law_tree an_law_tree od_law_leaves an_law_leaves od_law_forked an_law_forked od_law_book an_law_book od_law_plus an_law_plus od_law_summed an_law_summed od_law_account an_law_account od_law_some_book an_law_some_book od_law_odd an_law_odd od_law_near_accounts an_law_near_accounts od_law_caught an_law_caught od_law_due an_law_due od_law an_law : Option Addr}
    {sl_wall sl_is_word sl_is_integer sl_is_number sl_check_account sl_cost sl_cost_of sl_check_prices sl_cancels_at sl_wrong_goods sl_wrong_barters sl_wrong_barter sl_wrong_row sl_is_mixed sl_law_wrong_account sl_law_source sl_law_pick sl_law_names sl_law_made sl_law_of sl_law_mixed sl_law_any_row sl_law_any_book sl_law_tree sl_law_leaves sl_law_forked sl_law_book sl_law_plus sl_law_summed sl_law_account sl_law_some_book sl_law_odd sl_law_near_accounts sl_law_caught sl_law_due sl_law : Array (Option Value)}
    {oc_wall kV_wall dc_wall pm_wall cd_wall ct_wall oc_is_word kV_is_word dc_is_word pm_is_word cd_is_word ct_is_word oc_is_integer kV_is_integer dc_is_integer pm_is_integer cd_is_integer ct_is_integer oc_is_number kV_is_number dc_is_number pm_is_number cd_is_number ct_is_number oc_check_account kV_check_account dc_check_account pm_check_account cd_check_account ct_check_account oc_cost kV_cost dc_cost pm_cost cd_cost ct_cost oc_cost_of kV_cost_of dc_cost_of pm_cost_of cd_cost_of ct_cost_of oc_check_prices kV_check_prices dc_check_prices pm_check_prices cd_check_prices ct_check_prices oc_cancels_at kV_cancels_at dc_cancels_at pm_cancels_at cd_cancels_at ct_cancels_at oc_wrong_goods kV_wrong_goods dc_wrong_goods pm_wrong_goods cd_wrong_goods ct_wrong_goods oc_wrong_barters kV_wrong_barters dc_wrong_barters pm_wrong_barters cd_wrong_barters ct_wrong_barters oc_wrong_barter kV_wrong_barter dc_wrong_barter pm_wrong_barter cd_wrong_barter ct_wrong_barter oc_wrong_row kV_wrong_row dc_wrong_row pm_wrong_row cd_wrong_row ct_wrong_row oc_is_mixed kV_is_mixed dc_is_mixed pm_is_mixed cd_is_mixed ct_is_mixed oc_law_wrong_account kV_law_wrong_account dc_law_wrong_account pm_law_wrong_account cd_law_wrong_account ct_law_wrong_account oc_law_source kV_law_source dc_law_source pm_law_source cd_law_source ct_law_source oc_law_pick kV_law_pick dc_law_pick pm_law_pick cd_law_pick ct_law_pick oc_law_names kV_law_names dc_law_names pm_law_names cd_law_names ct_law_names oc_law_made kV_law_made dc_law_made pm_law_made cd_law_made ct_law_made oc_law_of kV_law_of dc_law_of pm_law_of cd_law_of ct_law_of oc_law_mixed kV_law_mixed dc_law_mixed pm_law_mixed cd_law_mixed ct_law_mixed oc_law_any_row kV_law_any_row dc_law_any_row pm_law_any_row cd_law_any_row ct_law_any_row oc_law_any_book kV_law_any_book dc_law_any_book pm_law_any_book cd_law_any_book ct_law_any_book oc_law_tree kV_law_tree dc_law_tree pm_law_tree cd_law_tree ct_law_tree oc_law_leaves kV_law_leaves dc_law_leaves pm_law_leaves cd_law_leaves ct_law_leaves oc_law_forked kV_law_forked dc_law_forked pm_law_forked cd_law_forked ct_law_forked oc_law_book kV_law_book dc_law_book pm_law_book cd_law_book ct_law_book oc_law_plus kV_law_plus dc_law_plus pm_law_plus cd_law_plus ct_law_plus oc_law_summed kV_law_summed dc_law_summed pm_law_summed cd_law_summed ct_law_summed oc_law_account kV_law_account dc_law_account pm_law_account cd_law_account ct_law_account oc_law_some_book kV_law_some_book dc_law_some_book pm_law_some_book cd_law_some_book ct_law_some_book oc_law_odd kV_law_odd dc_law_odd pm_law_odd cd_law_odd ct_law_odd oc_law_near_accounts kV_law_near_accounts dc_law_near_accounts pm_law_near_accounts cd_law_near_accounts ct_law_near_accounts oc_law_caught kV_law_caught dc_law_caught pm_law_caught cd_law_caught ct_law_caught oc_law_due kV_law_due dc_law_due pm_law_due cd_law_due ct_law_due oc_law kV_law dc_law pm_law ct_law : Value}
    {c0_law : Addr}
    {C_Book : Addr}
    {f_Book_init : Addr} {od_Book_init an_Book_init : Option Addr} {sl_Book_init : Array (Option Value)} {oc_Book_init kV_Book_init dc_Book_init pm_Book_init cd_Book_init ct_Book_init : Value}
    {f_Book_names : Addr} {od_Book_names an_Book_names : Option Addr} {sl_Book_names : Array (Option Value)} {oc_Book_names kV_Book_names dc_Book_names pm_Book_names cd_Book_names ct_Book_names : Value}
    {f_Book_barters : Addr} {od_Book_barters an_Book_barters : Option Addr} {sl_Book_barters : Array (Option Value)} {oc_Book_barters kV_Book_barters dc_Book_barters pm_Book_barters cd_Book_barters ct_Book_barters : Value}
    {f_Book_goods : Addr} {od_Book_goods an_Book_goods : Option Addr} {sl_Book_goods : Array (Option Value)} {oc_Book_goods kV_Book_goods dc_Book_goods pm_Book_goods cd_Book_goods ct_Book_goods : Value}
    {C_BadAccount N_BadAccount fi_BadAccount CB0_BadAccount : Addr} {nm_BadAccount q_BadAccount : Str} {bs_BadAccount sub_BadAccount : List Value} {sn_BadAccount : List Str} {ab_BadAccount : Bool} {col_BadAccount : Option Bool} {dd_BadAccount odi_BadAccount ani_BadAccount : Option Addr} {m0_BadAccount m1_BadAccount m2_BadAccount m3_BadAccount m5_BadAccount : Option Value} {sli_BadAccount : Array (Option Value)} {oci_BadAccount kVi_BadAccount dci_BadAccount pmi_BadAccount cdi_BadAccount cti_BadAccount : Value}
    {C_BadPrices N_BadPrices fi_BadPrices CB0_BadPrices : Addr} {nm_BadPrices q_BadPrices : Str} {bs_BadPrices sub_BadPrices : List Value} {sn_BadPrices : List Str} {ab_BadPrices : Bool} {col_BadPrices : Option Bool} {dd_BadPrices odi_BadPrices ani_BadPrices : Option Addr} {m0_BadPrices m1_BadPrices m2_BadPrices m3_BadPrices m5_BadPrices : Option Value} {sli_BadPrices : Array (Option Value)} {oci_BadPrices kVi_BadPrices dci_BadPrices pmi_BadPrices cdi_BadPrices cti_BadPrices : Value} (hfa : mg "law" = some (.ref fa))
    (a_wall : PySem.W.nsIn K mainGlobals "_wall" = some (some (.ref f_wall))) (l_wall : K.lookup f_wall = some ⟨oc_wall, od_wall, .func (PySem.W.fnOf "_wall" "_wall" (defArgs s_wall) (defBody s_wall) (defScope s_wall) .none kV_wall dc_wall pm_wall an_wall cd_wall ct_wall), sl_wall⟩) (c_wall : PySem.W.codeIn K cd_wall "_wall" = true) (k_wall : PySem.W.keepIn K (.ref f_wall) = true)
    (a_is_word : PySem.W.nsIn K mainGlobals "is_word" = some (some (.ref f_is_word))) (l_is_word : K.lookup f_is_word = some ⟨oc_is_word, od_is_word, .func (PySem.W.fnOf "is_word" "is_word" (defArgs s_is_word) (defBody s_is_word) (defScope s_is_word) .none kV_is_word dc_is_word pm_is_word an_is_word cd_is_word ct_is_word), sl_is_word⟩) (c_is_word : PySem.W.codeIn K cd_is_word "is_word" = true) (k_is_word : PySem.W.keepIn K (.ref f_is_word) = true)
    (a_is_integer : PySem.W.nsIn K mainGlobals "is_integer" = some (some (.ref f_is_integer))) (l_is_integer : K.lookup f_is_integer = some ⟨oc_is_integer, od_is_integer, .func (PySem.W.fnOf "is_integer" "is_integer" (defArgs s_is_integer) (defBody s_is_integer) (defScope s_is_integer) .none kV_is_integer dc_is_integer pm_is_integer an_is_integer cd_is_integer ct_is_integer), sl_is_integer⟩) (c_is_integer : PySem.W.codeIn K cd_is_integer "is_integer" = true) (k_is_integer : PySem.W.keepIn K (.ref f_is_integer) = true)
    (a_is_number : PySem.W.nsIn K mainGlobals "is_number" = some (some (.ref f_is_number))) (l_is_number : K.lookup f_is_number = some ⟨oc_is_number, od_is_number, .func (PySem.W.fnOf "is_number" "is_number" (defArgs s_is_number) (defBody s_is_number) (defScope s_is_number) .none kV_is_number dc_is_number pm_is_number an_is_number cd_is_number ct_is_number), sl_is_number⟩) (c_is_number : PySem.W.codeIn K cd_is_number "is_number" = true) (k_is_number : PySem.W.keepIn K (.ref f_is_number) = true)
    (a_check_account : PySem.W.nsIn K mainGlobals "check_account" = some (some (.ref f_check_account))) (l_check_account : K.lookup f_check_account = some ⟨oc_check_account, od_check_account, .func (PySem.W.fnOf "check_account" "check_account" (defArgs s_check_account) (defBody s_check_account) (defScope s_check_account) .none kV_check_account dc_check_account pm_check_account an_check_account cd_check_account ct_check_account), sl_check_account⟩) (c_check_account : PySem.W.codeIn K cd_check_account "check_account" = true) (k_check_account : PySem.W.keepIn K (.ref f_check_account) = true)
    (a_cost : PySem.W.nsIn K mainGlobals "cost" = some (some (.ref f_cost))) (l_cost : K.lookup f_cost = some ⟨oc_cost, od_cost, .func (PySem.W.fnOf "cost" "cost" (defArgs s_cost) (defBody s_cost) (defScope s_cost) .none kV_cost dc_cost pm_cost an_cost cd_cost ct_cost), sl_cost⟩) (c_cost : PySem.W.codeIn K cd_cost "cost" = true) (k_cost : PySem.W.keepIn K (.ref f_cost) = true)
    (a_cost_of : PySem.W.nsIn K mainGlobals "cost_of" = some (some (.ref f_cost_of))) (l_cost_of : K.lookup f_cost_of = some ⟨oc_cost_of, od_cost_of, .func (PySem.W.fnOf "cost_of" "cost_of" (defArgs s_cost_of) (defBody s_cost_of) (defScope s_cost_of) .none kV_cost_of dc_cost_of pm_cost_of an_cost_of cd_cost_of ct_cost_of), sl_cost_of⟩) (c_cost_of : PySem.W.codeIn K cd_cost_of "cost_of" = true) (k_cost_of : PySem.W.keepIn K (.ref f_cost_of) = true)
    (a_check_prices : PySem.W.nsIn K mainGlobals "check_prices" = some (some (.ref f_check_prices))) (l_check_prices : K.lookup f_check_prices = some ⟨oc_check_prices, od_check_prices, .func (PySem.W.fnOf "check_prices" "check_prices" (defArgs s_check_prices) (defBody s_check_prices) (defScope s_check_prices) .none kV_check_prices dc_check_prices pm_check_prices an_check_prices cd_check_prices ct_check_prices), sl_check_prices⟩) (c_check_prices : PySem.W.codeIn K cd_check_prices "check_prices" = true) (k_check_prices : PySem.W.keepIn K (.ref f_check_prices) = true)
    (a_cancels_at : PySem.W.nsIn K mainGlobals "cancels_at" = some (some (.ref f_cancels_at))) (l_cancels_at : K.lookup f_cancels_at = some ⟨oc_cancels_at, od_cancels_at, .func (PySem.W.fnOf "cancels_at" "cancels_at" (defArgs s_cancels_at) (defBody s_cancels_at) (defScope s_cancels_at) .none kV_cancels_at dc_cancels_at pm_cancels_at an_cancels_at cd_cancels_at ct_cancels_at), sl_cancels_at⟩) (c_cancels_at : PySem.W.codeIn K cd_cancels_at "cancels_at" = true) (k_cancels_at : PySem.W.keepIn K (.ref f_cancels_at) = true)
    (a_wrong_goods : PySem.W.nsIn K mainGlobals "wrong_goods" = some (some (.ref f_wrong_goods))) (l_wrong_goods : K.lookup f_wrong_goods = some ⟨oc_wrong_goods, od_wrong_goods, .func (PySem.W.fnOf "wrong_goods" "wrong_goods" (defArgs s_wrong_goods) (defBody s_wrong_goods) (defScope s_wrong_goods) .none kV_wrong_goods dc_wrong_goods pm_wrong_goods an_wrong_goods cd_wrong_goods ct_wrong_goods), sl_wrong_goods⟩) (c_wrong_goods : PySem.W.codeIn K cd_wrong_goods "wrong_goods" = true) (k_wrong_goods : PySem.W.keepIn K (.ref f_wrong_goods) = true)
    (a_wrong_barters : PySem.W.nsIn K mainGlobals "wrong_barters" = some (some (.ref f_wrong_barters))) (l_wrong_barters : K.lookup f_wrong_barters = some ⟨oc_wrong_barters, od_wrong_barters, .func (PySem.W.fnOf "wrong_barters" "wrong_barters" (defArgs s_wrong_barters) (defBody s_wrong_barters) (defScope s_wrong_barters) .none kV_wrong_barters dc_wrong_barters pm_wrong_barters an_wrong_barters cd_wrong_barters ct_wrong_barters), sl_wrong_barters⟩) (c_wrong_barters : PySem.W.codeIn K cd_wrong_barters "wrong_barters" = true) (k_wrong_barters : PySem.W.keepIn K (.ref f_wrong_barters) = true)
    (a_wrong_barter : PySem.W.nsIn K mainGlobals "wrong_barter" = some (some (.ref f_wrong_barter))) (l_wrong_barter : K.lookup f_wrong_barter = some ⟨oc_wrong_barter, od_wrong_barter, .func (PySem.W.fnOf "wrong_barter" "wrong_barter" (defArgs s_wrong_barter) (defBody s_wrong_barter) (defScope s_wrong_barter) .none kV_wrong_barter dc_wrong_barter pm_wrong_barter an_wrong_barter cd_wrong_barter ct_wrong_barter), sl_wrong_barter⟩) (c_wrong_barter : PySem.W.codeIn K cd_wrong_barter "wrong_barter" = true) (k_wrong_barter : PySem.W.keepIn K (.ref f_wrong_barter) = true)
    (a_wrong_row : PySem.W.nsIn K mainGlobals "wrong_row" = some (some (.ref f_wrong_row))) (l_wrong_row : K.lookup f_wrong_row = some ⟨oc_wrong_row, od_wrong_row, .func (PySem.W.fnOf "wrong_row" "wrong_row" (defArgs s_wrong_row) (defBody s_wrong_row) (defScope s_wrong_row) .none kV_wrong_row dc_wrong_row pm_wrong_row an_wrong_row cd_wrong_row ct_wrong_row), sl_wrong_row⟩) (c_wrong_row : PySem.W.codeIn K cd_wrong_row "wrong_row" = true) (k_wrong_row : PySem.W.keepIn K (.ref f_wrong_row) = true)
    (a_is_mixed : PySem.W.nsIn K mainGlobals "is_mixed" = some (some (.ref f_is_mixed))) (l_is_mixed : K.lookup f_is_mixed = some ⟨oc_is_mixed, od_is_mixed, .func (PySem.W.fnOf "is_mixed" "is_mixed" (defArgs s_is_mixed) (defBody s_is_mixed) (defScope s_is_mixed) .none kV_is_mixed dc_is_mixed pm_is_mixed an_is_mixed cd_is_mixed ct_is_mixed), sl_is_mixed⟩) (c_is_mixed : PySem.W.codeIn K cd_is_mixed "is_mixed" = true) (k_is_mixed : PySem.W.keepIn K (.ref f_is_mixed) = true)
    (a_law_wrong_account : PySem.W.nsIn K mainGlobals "_law_wrong_account" = some (some (.ref f_law_wrong_account))) (l_law_wrong_account : K.lookup f_law_wrong_account = some ⟨oc_law_wrong_account, od_law_wrong_account, .func (PySem.W.fnOf "_law_wrong_account" "_law_wrong_account" (defArgs s_law_wrong_account) (defBody s_law_wrong_account) (defScope s_law_wrong_account) .none kV_law_wrong_account dc_law_wrong_account pm_law_wrong_account an_law_wrong_account cd_law_wrong_account ct_law_wrong_account), sl_law_wrong_account⟩) (c_law_wrong_account : PySem.W.codeIn K cd_law_wrong_account "_law_wrong_account" = true) (k_law_wrong_account : PySem.W.keepIn K (.ref f_law_wrong_account) = true)
    (a_law_source : PySem.W.nsIn K mainGlobals "_law_source" = some (some (.ref f_law_source))) (l_law_source : K.lookup f_law_source = some ⟨oc_law_source, od_law_source, .func (PySem.W.fnOf "_law_source" "_law_source" (defArgs s_law_source) (defBody s_law_source) (defScope s_law_source) .none kV_law_source dc_law_source pm_law_source an_law_source cd_law_source ct_law_source), sl_law_source⟩) (c_law_source : PySem.W.codeIn K cd_law_source "_law_source" = true) (k_law_source : PySem.W.keepIn K (.ref f_law_source) = true)
    (a_law_pick : PySem.W.nsIn K mainGlobals "_law_pick" = some (some (.ref f_law_pick))) (l_law_pick : K.lookup f_law_pick = some ⟨oc_law_pick, od_law_pick, .func (PySem.W.fnOf "_law_pick" "_law_pick" (defArgs s_law_pick) (defBody s_law_pick) (defScope s_law_pick) .none kV_law_pick dc_law_pick pm_law_pick an_law_pick cd_law_pick ct_law_pick), sl_law_pick⟩) (c_law_pick : PySem.W.codeIn K cd_law_pick "_law_pick" = true) (k_law_pick : PySem.W.keepIn K (.ref f_law_pick) = true)
    (a_law_names : PySem.W.nsIn K mainGlobals "_law_names" = some (some (.ref f_law_names))) (l_law_names : K.lookup f_law_names = some ⟨oc_law_names, od_law_names, .func (PySem.W.fnOf "_law_names" "_law_names" (defArgs s_law_names) (defBody s_law_names) (defScope s_law_names) .none kV_law_names dc_law_names pm_law_names an_law_names cd_law_names ct_law_names), sl_law_names⟩) (c_law_names : PySem.W.codeIn K cd_law_names "_law_names" = true) (k_law_names : PySem.W.keepIn K (.ref f_law_names) = true)
    (a_law_made : PySem.W.nsIn K mainGlobals "_law_made" = some (some (.ref f_law_made))) (l_law_made : K.lookup f_law_made = some ⟨oc_law_made, od_law_made, .func (PySem.W.fnOf "_law_made" "_law_made" (defArgs s_law_made) (defBody s_law_made) (defScope s_law_made) .none kV_law_made dc_law_made pm_law_made an_law_made cd_law_made ct_law_made), sl_law_made⟩) (c_law_made : PySem.W.codeIn K cd_law_made "_law_made" = true) (k_law_made : PySem.W.keepIn K (.ref f_law_made) = true)
    (a_law_of : PySem.W.nsIn K mainGlobals "_law_of" = some (some (.ref f_law_of))) (l_law_of : K.lookup f_law_of = some ⟨oc_law_of, od_law_of, .func (PySem.W.fnOf "_law_of" "_law_of" (defArgs s_law_of) (defBody s_law_of) (defScope s_law_of) .none kV_law_of dc_law_of pm_law_of an_law_of cd_law_of ct_law_of), sl_law_of⟩) (c_law_of : PySem.W.codeIn K cd_law_of "_law_of" = true) (k_law_of : PySem.W.keepIn K (.ref f_law_of) = true)
    (a_law_mixed : PySem.W.nsIn K mainGlobals "_law_mixed" = some (some (.ref f_law_mixed))) (l_law_mixed : K.lookup f_law_mixed = some ⟨oc_law_mixed, od_law_mixed, .func (PySem.W.fnOf "_law_mixed" "_law_mixed" (defArgs s_law_mixed) (defBody s_law_mixed) (defScope s_law_mixed) .none kV_law_mixed dc_law_mixed pm_law_mixed an_law_mixed cd_law_mixed ct_law_mixed), sl_law_mixed⟩) (c_law_mixed : PySem.W.codeIn K cd_law_mixed "_law_mixed" = true) (k_law_mixed : PySem.W.keepIn K (.ref f_law_mixed) = true)
    (a_law_any_row : PySem.W.nsIn K mainGlobals "_law_any_row" = some (some (.ref f_law_any_row))) (l_law_any_row : K.lookup f_law_any_row = some ⟨oc_law_any_row, od_law_any_row, .func (PySem.W.fnOf "_law_any_row" "_law_any_row" (defArgs s_law_any_row) (defBody s_law_any_row) (defScope s_law_any_row) .none kV_law_any_row dc_law_any_row pm_law_any_row an_law_any_row cd_law_any_row ct_law_any_row), sl_law_any_row⟩) (c_law_any_row : PySem.W.codeIn K cd_law_any_row "_law_any_row" = true) (k_law_any_row : PySem.W.keepIn K (.ref f_law_any_row) = true)
    (a_law_any_book : PySem.W.nsIn K mainGlobals "_law_any_book" = some (some (.ref f_law_any_book))) (l_law_any_book : K.lookup f_law_any_book = some ⟨oc_law_any_book, od_law_any_book, .func (PySem.W.fnOf "_law_any_book" "_law_any_book" (defArgs s_law_any_book) (defBody s_law_any_book) (defScope s_law_any_book) .none kV_law_any_book dc_law_any_book pm_law_any_book an_law_any_book cd_law_any_book ct_law_any_book), sl_law_any_book⟩) (c_law_any_book : PySem.W.codeIn K cd_law_any_book "_law_any_book" = true) (k_law_any_book : PySem.W.keepIn K (.ref f_law_any_book) = true)
    (a_law_tree : PySem.W.nsIn K mainGlobals "_law_tree" = some (some (.ref f_law_tree))) (l_law_tree : K.lookup f_law_tree = some ⟨oc_law_tree, od_law_tree, .func (PySem.W.fnOf "_law_tree" "_law_tree" (defArgs s_law_tree) (defBody s_law_tree) (defScope s_law_tree) .none kV_law_tree dc_law_tree pm_law_tree an_law_tree cd_law_tree ct_law_tree), sl_law_tree⟩) (c_law_tree : PySem.W.codeIn K cd_law_tree "_law_tree" = true) (k_law_tree : PySem.W.keepIn K (.ref f_law_tree) = true)
    (a_law_leaves : PySem.W.nsIn K mainGlobals "_law_leaves" = some (some (.ref f_law_leaves))) (l_law_leaves : K.lookup f_law_leaves = some ⟨oc_law_leaves, od_law_leaves, .func (PySem.W.fnOf "_law_leaves" "_law_leaves" (defArgs s_law_leaves) (defBody s_law_leaves) (defScope s_law_leaves) .none kV_law_leaves dc_law_leaves pm_law_leaves an_law_leaves cd_law_leaves ct_law_leaves), sl_law_leaves⟩) (c_law_leaves : PySem.W.codeIn K cd_law_leaves "_law_leaves" = true) (k_law_leaves : PySem.W.keepIn K (.ref f_law_leaves) = true)
    (a_law_forked : PySem.W.nsIn K mainGlobals "_law_forked" = some (some (.ref f_law_forked))) (l_law_forked : K.lookup f_law_forked = some ⟨oc_law_forked, od_law_forked, .func (PySem.W.fnOf "_law_forked" "_law_forked" (defArgs s_law_forked) (defBody s_law_forked) (defScope s_law_forked) .none kV_law_forked dc_law_forked pm_law_forked an_law_forked cd_law_forked ct_law_forked), sl_law_forked⟩) (c_law_forked : PySem.W.codeIn K cd_law_forked "_law_forked" = true) (k_law_forked : PySem.W.keepIn K (.ref f_law_forked) = true)
    (a_law_book : PySem.W.nsIn K mainGlobals "_law_book" = some (some (.ref f_law_book))) (l_law_book : K.lookup f_law_book = some ⟨oc_law_book, od_law_book, .func (PySem.W.fnOf "_law_book" "_law_book" (defArgs s_law_book) (defBody s_law_book) (defScope s_law_book) .none kV_law_book dc_law_book pm_law_book an_law_book cd_law_book ct_law_book), sl_law_book⟩) (c_law_book : PySem.W.codeIn K cd_law_book "_law_book" = true) (k_law_book : PySem.W.keepIn K (.ref f_law_book) = true)
    (a_law_plus : PySem.W.nsIn K mainGlobals "_law_plus" = some (some (.ref f_law_plus))) (l_law_plus : K.lookup f_law_plus = some ⟨oc_law_plus, od_law_plus, .func (PySem.W.fnOf "_law_plus" "_law_plus" (defArgs s_law_plus) (defBody s_law_plus) (defScope s_law_plus) .none kV_law_plus dc_law_plus pm_law_plus an_law_plus cd_law_plus ct_law_plus), sl_law_plus⟩) (c_law_plus : PySem.W.codeIn K cd_law_plus "_law_plus" = true) (k_law_plus : PySem.W.keepIn K (.ref f_law_plus) = true)
    (a_law_summed : PySem.W.nsIn K mainGlobals "_law_summed" = some (some (.ref f_law_summed))) (l_law_summed : K.lookup f_law_summed = some ⟨oc_law_summed, od_law_summed, .func (PySem.W.fnOf "_law_summed" "_law_summed" (defArgs s_law_summed) (defBody s_law_summed) (defScope s_law_summed) .none kV_law_summed dc_law_summed pm_law_summed an_law_summed cd_law_summed ct_law_summed), sl_law_summed⟩) (c_law_summed : PySem.W.codeIn K cd_law_summed "_law_summed" = true) (k_law_summed : PySem.W.keepIn K (.ref f_law_summed) = true)
    (a_law_account : PySem.W.nsIn K mainGlobals "_law_account" = some (some (.ref f_law_account))) (l_law_account : K.lookup f_law_account = some ⟨oc_law_account, od_law_account, .func (PySem.W.fnOf "_law_account" "_law_account" (defArgs s_law_account) (defBody s_law_account) (defScope s_law_account) .none kV_law_account dc_law_account pm_law_account an_law_account cd_law_account ct_law_account), sl_law_account⟩) (c_law_account : PySem.W.codeIn K cd_law_account "_law_account" = true) (k_law_account : PySem.W.keepIn K (.ref f_law_account) = true)
    (a_law_some_book : PySem.W.nsIn K mainGlobals "_law_some_book" = some (some (.ref f_law_some_book))) (l_law_some_book : K.lookup f_law_some_book = some ⟨oc_law_some_book, od_law_some_book, .func (PySem.W.fnOf "_law_some_book" "_law_some_book" (defArgs s_law_some_book) (defBody s_law_some_book) (defScope s_law_some_book) .none kV_law_some_book dc_law_some_book pm_law_some_book an_law_some_book cd_law_some_book ct_law_some_book), sl_law_some_book⟩) (c_law_some_book : PySem.W.codeIn K cd_law_some_book "_law_some_book" = true) (k_law_some_book : PySem.W.keepIn K (.ref f_law_some_book) = true)
    (a_law_odd : PySem.W.nsIn K mainGlobals "_law_odd" = some (some (.ref f_law_odd))) (l_law_odd : K.lookup f_law_odd = some ⟨oc_law_odd, od_law_odd, .func (PySem.W.fnOf "_law_odd" "_law_odd" (defArgs s_law_odd) (defBody s_law_odd) (defScope s_law_odd) .none kV_law_odd dc_law_odd pm_law_odd an_law_odd cd_law_odd ct_law_odd), sl_law_odd⟩) (c_law_odd : PySem.W.codeIn K cd_law_odd "_law_odd" = true) (k_law_odd : PySem.W.keepIn K (.ref f_law_odd) = true)
    (a_law_near_accounts : PySem.W.nsIn K mainGlobals "_law_near_accounts" = some (some (.ref f_law_near_accounts))) (l_law_near_accounts : K.lookup f_law_near_accounts = some ⟨oc_law_near_accounts, od_law_near_accounts, .func (PySem.W.fnOf "_law_near_accounts" "_law_near_accounts" (defArgs s_law_near_accounts) (defBody s_law_near_accounts) (defScope s_law_near_accounts) .none kV_law_near_accounts dc_law_near_accounts pm_law_near_accounts an_law_near_accounts cd_law_near_accounts ct_law_near_accounts), sl_law_near_accounts⟩) (c_law_near_accounts : PySem.W.codeIn K cd_law_near_accounts "_law_near_accounts" = true) (k_law_near_accounts : PySem.W.keepIn K (.ref f_law_near_accounts) = true)
    (a_law_caught : PySem.W.nsIn K mainGlobals "_law_caught" = some (some (.ref f_law_caught))) (l_law_caught : K.lookup f_law_caught = some ⟨oc_law_caught, od_law_caught, .func (PySem.W.fnOf "_law_caught" "_law_caught" (defArgs s_law_caught) (defBody s_law_caught) (defScope s_law_caught) .none kV_law_caught dc_law_caught pm_law_caught an_law_caught cd_law_caught ct_law_caught), sl_law_caught⟩) (c_law_caught : PySem.W.codeIn K cd_law_caught "_law_caught" = true) (k_law_caught : PySem.W.keepIn K (.ref f_law_caught) = true)
    (a_law_due : PySem.W.nsIn K mainGlobals "_law_due" = some (some (.ref f_law_due))) (l_law_due : K.lookup f_law_due = some ⟨oc_law_due, od_law_due, .func (PySem.W.fnOf "_law_due" "_law_due" (defArgs s_law_due) (defBody s_law_due) (defScope s_law_due) .none kV_law_due dc_law_due pm_law_due an_law_due cd_law_due ct_law_due), sl_law_due⟩) (c_law_due : PySem.W.codeIn K cd_law_due "_law_due" = true) (k_law_due : PySem.W.keepIn K (.ref f_law_due) = true)
    (a_law : PySem.W.nsIn K mainGlobals "law" = some (some (.ref f_law))) (l_law : K.lookup f_law = some ⟨oc_law, od_law, .func (PySem.W.fnOf "law" "law" (defArgs s_law) (defBody s_law) (defScope s_law) .none kV_law dc_law pm_law an_law (.ref c0_law) ct_law), sl_law⟩) (c_law : PySem.W.codeIn K (.ref c0_law) "law" = true) (k_law : PySem.W.keepIn K (.ref f_law) = true)
    (PP : Addr) (hh_law : PySem.W.codeHdIn K c0_law PP = true) (np_law : K.lookup PP = none)
    (aC_Book : PySem.W.nsIn K mainGlobals "Book" = some (some (.ref C_Book)))
    (pg_Book : PySem.W.plainGet K C_Book Str.empty = true)
    (hd_Book : PySem.W.hasDictIn K C_Book = true)
    (po_Book : PySem.W.plainOver K C_Book = true)
    (sa_Book : PySem.W.findIn K (.ref C_Book) "__setattr__" = some (some (.builtin "object.__setattr__")))
    (mk_Book : PySem.W.makesIn K C_Book = true)
    (kC_Book : PySem.W.keepIn K (.ref C_Book) = true)
    (na_goods_Book : PySem.W.findIn K (.ref C_Book) "_goods" = some none)
    (na_barters_Book : PySem.W.findIn K (.ref C_Book) "_barters" = some none)
    (na_good_numbers_Book : PySem.W.findIn K (.ref C_Book) "_good_numbers" = some none)
    (na_barter_numbers_Book : PySem.W.findIn K (.ref C_Book) "_barter_numbers" = some none)
    (a_Book_init : PySem.W.findIn K (.ref C_Book) "__init__" = some (some (.ref f_Book_init)))
    (i_Book_init : PySem.W.isFn K (.ref f_Book_init) = true)
    (l_Book_init : K.lookup f_Book_init = some ⟨oc_Book_init, od_Book_init, .func (PySem.W.fnOf "__init__" "Book.__init__" (defArgs s_Book_init) (defBody s_Book_init) (defScope s_Book_init) .none kV_Book_init dc_Book_init pm_Book_init an_Book_init cd_Book_init ct_Book_init), sl_Book_init⟩)
    (c_Book_init : PySem.W.codeIn K cd_Book_init "Book.__init__" = true)
    (k_Book_init : PySem.W.keepIn K (.ref f_Book_init) = true)
    (a_Book_names : PySem.W.findIn K (.ref C_Book) "names" = some (some (.ref f_Book_names)))
    (i_Book_names : PySem.W.isFn K (.ref f_Book_names) = true)
    (l_Book_names : K.lookup f_Book_names = some ⟨oc_Book_names, od_Book_names, .func (PySem.W.fnOf "names" "Book.names" (defArgs s_Book_names) (defBody s_Book_names) (defScope s_Book_names) .none kV_Book_names dc_Book_names pm_Book_names an_Book_names cd_Book_names ct_Book_names), sl_Book_names⟩)
    (c_Book_names : PySem.W.codeIn K cd_Book_names "Book.names" = true)
    (k_Book_names : PySem.W.keepIn K (.ref f_Book_names) = true)
    (a_Book_barters : PySem.W.findIn K (.ref C_Book) "barters" = some (some (.ref f_Book_barters)))
    (i_Book_barters : PySem.W.isFn K (.ref f_Book_barters) = true)
    (l_Book_barters : K.lookup f_Book_barters = some ⟨oc_Book_barters, od_Book_barters, .func (PySem.W.fnOf "barters" "Book.barters" (defArgs s_Book_barters) (defBody s_Book_barters) (defScope s_Book_barters) .none kV_Book_barters dc_Book_barters pm_Book_barters an_Book_barters cd_Book_barters ct_Book_barters), sl_Book_barters⟩)
    (c_Book_barters : PySem.W.codeIn K cd_Book_barters "Book.barters" = true)
    (k_Book_barters : PySem.W.keepIn K (.ref f_Book_barters) = true)
    (a_Book_goods : PySem.W.findIn K (.ref C_Book) "goods" = some (some (.ref f_Book_goods)))
    (i_Book_goods : PySem.W.isFn K (.ref f_Book_goods) = true)
    (l_Book_goods : K.lookup f_Book_goods = some ⟨oc_Book_goods, od_Book_goods, .func (PySem.W.fnOf "goods" "Book.goods" (defArgs s_Book_goods) (defBody s_Book_goods) (defScope s_Book_goods) .none kV_Book_goods dc_Book_goods pm_Book_goods an_Book_goods cd_Book_goods ct_Book_goods), sl_Book_goods⟩)
    (c_Book_goods : PySem.W.codeIn K cd_Book_goods "Book.goods" = true)
    (k_Book_goods : PySem.W.keepIn K (.ref f_Book_goods) = true)
    (aC_BadAccount : PySem.W.nsIn K mainGlobals "BadAccount" = some (some (.ref C_BadAccount)))
    (xL_BadAccount : K.lookup C_BadAccount = some (excClassObj nm_BadAccount q_BadAccount C_BadAccount N_BadAccount bs_BadAccount [.ref CB0_BadAccount, .type "ValueError", .type "Exception", .type "BaseException", .type "object"] true sn_BadAccount sub_BadAccount ab_BadAccount col_BadAccount dd_BadAccount m0_BadAccount m1_BadAccount m2_BadAccount m3_BadAccount m5_BadAccount "ValueError.__new__"))
    (sa_BadAccount : PySem.W.findIn K (.ref C_BadAccount) "__setattr__" = some (some (.builtin "object.__setattr__")))
    (ga_BadAccount : PySem.W.findIn K (.ref C_BadAccount) "__getattribute__" = some (some (.builtin "BaseException.__getattribute__")))
    (gg_BadAccount : PySem.W.findIn K (.ref C_BadAccount) "__getattr__" = some none)
    (nf_BadAccount : PySem.W.findIn K (.ref C_BadAccount) "path" = some none)
    (ai_BadAccount : PySem.W.findIn K (.ref C_BadAccount) "__init__" = some (some (.ref fi_BadAccount)))
    (ti_BadAccount : PySem.W.typeIn K (.ref fi_BadAccount) = some (.type "function"))
    (li_BadAccount : K.lookup fi_BadAccount = some ⟨oci_BadAccount, odi_BadAccount, .func (PySem.W.fnOf "__init__" "BadAccount.__init__" (defArgs (initOf s_BadAccount)) (defBody (initOf s_BadAccount)) (defScope (initOf s_BadAccount)) .none kVi_BadAccount dci_BadAccount pmi_BadAccount ani_BadAccount cdi_BadAccount cti_BadAccount), sli_BadAccount⟩)
    (ci_BadAccount : PySem.W.codeIn K cdi_BadAccount "BadAccount.__init__" = true)
    (ki_BadAccount : PySem.W.keepIn K (.ref fi_BadAccount) = true)
    (kC_BadAccount : PySem.W.keepIn K (.ref C_BadAccount) = true)
    (eC_BadAccount : PySem.W.subIn K (.ref C_BadAccount) (.type "BaseException") = some true)
    (tC_BadAccount : PySem.W.typeIn K (.ref C_BadAccount) = some (.type "type"))
    (hC_BadAccount : PySem.W.hasDictIn K C_BadAccount = true)
    (iC_BadAccount : PySem.W.isClsIn K C_BadAccount = true)
    (sC_BadAccount : PySem.W.subIn K (.ref C_BadAccount) (.ref C_BadAccount) = some true)
    (aC_BadPrices : PySem.W.nsIn K mainGlobals "BadPrices" = some (some (.ref C_BadPrices)))
    (xL_BadPrices : K.lookup C_BadPrices = some (excClassObj nm_BadPrices q_BadPrices C_BadPrices N_BadPrices bs_BadPrices [.ref CB0_BadPrices, .type "ValueError", .type "Exception", .type "BaseException", .type "object"] true sn_BadPrices sub_BadPrices ab_BadPrices col_BadPrices dd_BadPrices m0_BadPrices m1_BadPrices m2_BadPrices m3_BadPrices m5_BadPrices "ValueError.__new__"))
    (sa_BadPrices : PySem.W.findIn K (.ref C_BadPrices) "__setattr__" = some (some (.builtin "object.__setattr__")))
    (ga_BadPrices : PySem.W.findIn K (.ref C_BadPrices) "__getattribute__" = some (some (.builtin "BaseException.__getattribute__")))
    (gg_BadPrices : PySem.W.findIn K (.ref C_BadPrices) "__getattr__" = some none)
    (nf_BadPrices : PySem.W.findIn K (.ref C_BadPrices) "path" = some none)
    (ai_BadPrices : PySem.W.findIn K (.ref C_BadPrices) "__init__" = some (some (.ref fi_BadPrices)))
    (ti_BadPrices : PySem.W.typeIn K (.ref fi_BadPrices) = some (.type "function"))
    (li_BadPrices : K.lookup fi_BadPrices = some ⟨oci_BadPrices, odi_BadPrices, .func (PySem.W.fnOf "__init__" "BadPrices.__init__" (defArgs (initOf s_BadPrices)) (defBody (initOf s_BadPrices)) (defScope (initOf s_BadPrices)) .none kVi_BadPrices dci_BadPrices pmi_BadPrices ani_BadPrices cdi_BadPrices cti_BadPrices), sli_BadPrices⟩)
    (ci_BadPrices : PySem.W.codeIn K cdi_BadPrices "BadPrices.__init__" = true)
    (ki_BadPrices : PySem.W.keepIn K (.ref fi_BadPrices) = true)
    (kC_BadPrices : PySem.W.keepIn K (.ref C_BadPrices) = true)
    (eC_BadPrices : PySem.W.subIn K (.ref C_BadPrices) (.type "BaseException") = some true)
    (tC_BadPrices : PySem.W.typeIn K (.ref C_BadPrices) = some (.type "type"))
    (hC_BadPrices : PySem.W.hasDictIn K C_BadPrices = true)
    (iC_BadPrices : PySem.W.isClsIn K C_BadPrices = true)
    (sC_BadPrices : PySem.W.subIn K (.ref C_BadPrices) (.ref C_BadPrices) = some true)
    (xs_BadPrices_BadAccount : PySem.W.subIn K (.ref C_BadPrices) (.ref C_BadAccount) = some false)
    {tk_DIGITS : Tok} (zc_DIGITS : PySem.W.nsIn K mainGlobals "DIGITS" = some (some (.str "0123456789" tk_DIGITS)))
    {tk_LETTERS : Tok} (zc_LETTERS : PySem.W.nsIn K mainGlobals "LETTERS" = some (some (.str "abcdefghijklmnopqrstuvwxyz" tk_LETTERS)))
    {tk_LONGEST_WORD : Tok} (zc_LONGEST_WORD : PySem.W.nsIn K mainGlobals "LONGEST_WORD" = some (some (.int 12 tk_LONGEST_WORD)))
    (zn_abs : PySem.W.nsIn K mainGlobals "abs" = some none)
    (zn_all : PySem.W.nsIn K mainGlobals "all" = some none)
    (zn_any : PySem.W.nsIn K mainGlobals "any" = some none)
    (zn_bool : PySem.W.nsIn K mainGlobals "bool" = some none)
    (zn_dict : PySem.W.nsIn K mainGlobals "dict" = some none)
    (zn_enumerate : PySem.W.nsIn K mainGlobals "enumerate" = some none)
    (zn_int : PySem.W.nsIn K mainGlobals "int" = some none)
    (zn_isinstance : PySem.W.nsIn K mainGlobals "isinstance" = some none)
    (zn_len : PySem.W.nsIn K mainGlobals "len" = some none)
    (zn_list : PySem.W.nsIn K mainGlobals "list" = some none)
    (zn_max : PySem.W.nsIn K mainGlobals "max" = some none)
    (zn_min : PySem.W.nsIn K mainGlobals "min" = some none)
    (zn_range : PySem.W.nsIn K mainGlobals "range" = some none)
    (zn_repr : PySem.W.nsIn K mainGlobals "repr" = some none)
    (zn_str : PySem.W.nsIn K mainGlobals "str" = some none)
    (zn_sum : PySem.W.nsIn K mainGlobals "sum" = some none)
    (zn_tuple : PySem.W.nsIn K mainGlobals "tuple" = some none)
    (zn_zip : PySem.W.nsIn K mainGlobals "zip" = some none) :
    ∃ T : Tx K mg, T.a_law = fa ∧ (∀ (s : Shared) (v : Value), BindsTo s T.fd_law ⟨[v], []⟩ [("_law_script", v)]) ∧ CodeAt K fa c0_law ∧ K.lookup PP = none ∧ PySem.W.CodeHd h c0_law PP := by
  have e := hfa.symm.trans (PySem.W.mg_of X G a_law)
  cases e
  have F_wall := fun_mk (st := s_wall) l_wall c_wall k_wall
  have b_wall := F_wall.binds (ps := ["k"]) fun _ _ _ _ _ _ us hl => match us, hl with | [_], _ => rfl
  have F_is_word := fun_mk (st := s_is_word) l_is_word c_is_word k_is_word
  have b_is_word := F_is_word.binds (ps := ["value"]) fun _ _ _ _ _ _ us hl => match us, hl with | [_], _ => rfl
  have F_is_integer := fun_mk (st := s_is_integer) l_is_integer c_is_integer k_is_integer
  have b_is_integer := F_is_integer.binds (ps := ["value"]) fun _ _ _ _ _ _ us hl => match us, hl with | [_], _ => rfl
  have F_is_number := fun_mk (st := s_is_number) l_is_number c_is_number k_is_number
  have b_is_number := F_is_number.binds (ps := ["value"]) fun _ _ _ _ _ _ us hl => match us, hl with | [_], _ => rfl
  have F_check_account := fun_mk (st := s_check_account) l_check_account c_check_account k_check_account
  have b_check_account := F_check_account.binds (ps := ["book", "account"]) fun _ _ _ _ _ _ us hl => match us, hl with | [_, _], _ => rfl
  have F_cost := fun_mk (st := s_cost) l_cost c_cost k_cost
  have b_cost := F_cost.binds (ps := ["book", "account", "prices"]) fun _ _ _ _ _ _ us hl => match us, hl with | [_, _, _], _ => rfl
  have F_cost_of := fun_mk (st := s_cost_of) l_cost_of c_cost_of k_cost_of
  have b_cost_of := F_cost_of.binds (ps := ["account", "prices"]) fun _ _ _ _ _ _ us hl => match us, hl with | [_, _], _ => rfl
  have F_check_prices := fun_mk (st := s_check_prices) l_check_prices c_check_prices k_check_prices
  have b_check_prices := F_check_prices.binds (ps := ["book", "prices"]) fun _ _ _ _ _ _ us hl => match us, hl with | [_, _], _ => rfl
  have F_cancels_at := fun_mk (st := s_cancels_at) l_cancels_at c_cancels_at k_cancels_at
  have b_cancels_at := F_cancels_at.binds (ps := ["book", "one", "other"]) fun _ _ _ _ _ _ us hl => match us, hl with | [_, _, _], _ => rfl
  have F_wrong_goods := fun_mk (st := s_wrong_goods) l_wrong_goods c_wrong_goods k_wrong_goods
  have b_wrong_goods := F_wrong_goods.binds (ps := ["goods"]) fun _ _ _ _ _ _ us hl => match us, hl with | [_], _ => rfl
  have F_wrong_barters := fun_mk (st := s_wrong_barters) l_wrong_barters c_wrong_barters k_wrong_barters
  have b_wrong_barters := F_wrong_barters.binds (ps := ["barters", "many"]) fun _ _ _ _ _ _ us hl => match us, hl with | [_, _], _ => rfl
  have F_wrong_barter := fun_mk (st := s_wrong_barter) l_wrong_barter c_wrong_barter k_wrong_barter
  have b_wrong_barter := F_wrong_barter.binds (ps := ["barter", "told", "many"]) fun _ _ _ _ _ _ us hl => match us, hl with | [_, _, _], _ => rfl
  have F_wrong_row := fun_mk (st := s_wrong_row) l_wrong_row c_wrong_row k_wrong_row
  have b_wrong_row := F_wrong_row.binds (ps := ["row", "many"]) fun _ _ _ _ _ _ us hl => match us, hl with | [_, _], _ => rfl
  have F_is_mixed := fun_mk (st := s_is_mixed) l_is_mixed c_is_mixed k_is_mixed
  have b_is_mixed := F_is_mixed.binds (ps := ["entries"]) fun _ _ _ _ _ _ us hl => match us, hl with | [_], _ => rfl
  have F_law_wrong_account := fun_mk (st := s_law_wrong_account) l_law_wrong_account c_law_wrong_account k_law_wrong_account
  have b_law_wrong_account := F_law_wrong_account.binds (ps := ["_law_world", "_law_value"]) fun _ _ _ _ _ _ us hl => match us, hl with | [_, _], _ => rfl
  have F_law_source := fun_mk (st := s_law_source) l_law_source c_law_source k_law_source
  have b_law_source := F_law_source.binds (ps := ["_law_script"]) fun _ _ _ _ _ _ us hl => match us, hl with | [_], _ => rfl
  have F_law_pick := fun_mk (st := s_law_pick) l_law_pick c_law_pick k_law_pick
  have b_law_pick := F_law_pick.binds (ps := ["_law_source_here", "_law_many"]) fun _ _ _ _ _ _ us hl => match us, hl with | [_, _], _ => rfl
  have F_law_names := fun_mk (st := s_law_names) l_law_names c_law_names k_law_names
  have b_law_names := F_law_names.binds (ps := ["_law_source_here", "_law_many"]) fun _ _ _ _ _ _ us hl => match us, hl with | [_, _], _ => rfl
  have F_law_made := fun_mk (st := s_law_made) l_law_made c_law_made k_law_made
  have b_law_made := F_law_made.binds (ps := ["_law_goods", "_law_barters"]) fun _ _ _ _ _ _ us hl => match us, hl with | [_, _], _ => rfl
  have F_law_of := fun_mk (st := s_law_of) l_law_of c_law_of k_law_of
  have b_law_of := F_law_of.binds (ps := ["_law_source_here", "_law_some"]) fun _ _ _ _ _ _ us hl => match us, hl with | [_, _], _ => rfl
  have F_law_mixed := fun_mk (st := s_law_mixed) l_law_mixed c_law_mixed k_law_mixed
  have b_law_mixed := F_law_mixed.binds (ps := ["_law_source_here", "_law_things"]) fun _ _ _ _ _ _ us hl => match us, hl with | [_, _], _ => rfl
  have F_law_any_row := fun_mk (st := s_law_any_row) l_law_any_row c_law_any_row k_law_any_row
  have b_law_any_row := F_law_any_row.binds (ps := ["_law_source_here", "_law_size"]) fun _ _ _ _ _ _ us hl => match us, hl with | [_, _], _ => rfl
  have F_law_any_book := fun_mk (st := s_law_any_book) l_law_any_book c_law_any_book k_law_any_book
  have b_law_any_book := F_law_any_book.binds (ps := ["_law_source_here", "_law_most"]) fun _ _ _ _ _ _ us hl => match us, hl with | [_, _], _ => rfl
  have F_law_tree := fun_mk (st := s_law_tree) l_law_tree c_law_tree k_law_tree
  have b_law_tree := F_law_tree.binds (ps := ["_law_source_here", "_law_goods"]) fun _ _ _ _ _ _ us hl => match us, hl with | [_, _], _ => rfl
  have F_law_leaves := fun_mk (st := s_law_leaves) l_law_leaves c_law_leaves k_law_leaves
  have b_law_leaves := F_law_leaves.binds (ps := ["_law_tree_here"]) fun _ _ _ _ _ _ us hl => match us, hl with | [_], _ => rfl
  have F_law_forked := fun_mk (st := s_law_forked) l_law_forked c_law_forked k_law_forked
  have b_law_forked := F_law_forked.binds (ps := ["_law_source_here", "_law_tree_here", "_law_goods", "_law_share", "_law_rows"]) fun _ _ _ _ _ _ us hl => match us, hl with | [_, _, _, _, _], _ => rfl
  have F_law_book := fun_mk (st := s_law_book) l_law_book c_law_book k_law_book
  have b_law_book := F_law_book.binds (ps := ["_law_source_here", "_law_most"]) fun _ _ _ _ _ _ us hl => match us, hl with | [_, _], _ => rfl
  have F_law_plus := fun_mk (st := s_law_plus) l_law_plus c_law_plus k_law_plus
  have b_law_plus := F_law_plus.binds (ps := ["_law_stock", "_law_row", "_law_times"]) fun _ _ _ _ _ _ us hl => match us, hl with | [_, _, _], _ => rfl
  have F_law_summed := fun_mk (st := s_law_summed) l_law_summed c_law_summed k_law_summed
  have b_law_summed := F_law_summed.binds (ps := ["_law_world", "_law_stock", "_law_account_here"]) fun _ _ _ _ _ _ us hl => match us, hl with | [_, _, _], _ => rfl
  have F_law_account := fun_mk (st := s_law_account) l_law_account c_law_account k_law_account
  have b_law_account := F_law_account.binds (ps := ["_law_source_here", "_law_world", "_law_most"]) fun _ _ _ _ _ _ us hl => match us, hl with | [_, _, _], _ => rfl
  have F_law_some_book := fun_mk (st := s_law_some_book) l_law_some_book c_law_some_book k_law_some_book
  have b_law_some_book := F_law_some_book.binds (ps := ["_law_source_here"]) fun _ _ _ _ _ _ us hl => match us, hl with | [_], _ => rfl
  have F_law_odd := fun_mk (st := s_law_odd) l_law_odd c_law_odd k_law_odd
  have b_law_odd := F_law_odd.binds (ps := ["_law_source_here"]) fun _ _ _ _ _ _ us hl => match us, hl with | [_], _ => rfl
  have F_law_near_accounts := fun_mk (st := s_law_near_accounts) l_law_near_accounts c_law_near_accounts k_law_near_accounts
  have b_law_near_accounts := F_law_near_accounts.binds (ps := ["_law_source_here", "_law_world", "_law_account_here"]) fun _ _ _ _ _ _ us hl => match us, hl with | [_, _, _], _ => rfl
  have F_law_caught := fun_mk (st := s_law_caught) l_law_caught c_law_caught k_law_caught
  have b_law_caught := F_law_caught.binds (ps := ["_law_call"]) fun _ _ _ _ _ _ us hl => match us, hl with | [_], _ => rfl
  have F_law_due := fun_mk (st := s_law_due) l_law_due c_law_due k_law_due
  have b_law_due := F_law_due.binds (ps := ["_law_world", "_law_account_here", "_law_prices"]) fun _ _ _ _ _ _ us hl => match us, hl with | [_, _, _], _ => rfl
  have F_law := fun_mk (st := s_law) l_law c_law k_law
  have b_law := F_law.binds (ps := ["_law_script"]) fun _ _ _ _ _ _ us hl => match us, hl with | [_], _ => rfl
  have F_Book_init := fun_mk (st := s_Book_init) l_Book_init c_Book_init k_Book_init
  have b_Book_init := F_Book_init.binds (ps := ["self", "goods", "barters"]) fun _ _ _ _ _ _ us hl => match us, hl with | [_, _, _], _ => rfl
  have F_Book_names := fun_mk (st := s_Book_names) l_Book_names c_Book_names k_Book_names
  have b_Book_names := F_Book_names.binds (ps := ["self"]) fun _ _ _ _ _ _ us hl => match us, hl with | [_], _ => rfl
  have F_Book_barters := fun_mk (st := s_Book_barters) l_Book_barters c_Book_barters k_Book_barters
  have b_Book_barters := F_Book_barters.binds (ps := ["self"]) fun _ _ _ _ _ _ us hl => match us, hl with | [_], _ => rfl
  have F_Book_goods := fun_mk (st := s_Book_goods) l_Book_goods c_Book_goods k_Book_goods
  have b_Book_goods := F_Book_goods.binds (ps := ["self"]) fun _ _ _ _ _ _ us hl => match us, hl with | [_], _ => rfl
  have Fi_BadAccount := fun_mk (st := initOf s_BadAccount) li_BadAccount ci_BadAccount ki_BadAccount
  have bi_BadAccount := Fi_BadAccount.binds (ps := ["self", "path"]) fun _ _ _ _ _ _ us hl => match us, hl with | [_, _], _ => rfl
  have Fi_BadPrices := fun_mk (st := initOf s_BadPrices) li_BadPrices ci_BadPrices ki_BadPrices
  have bi_BadPrices := Fi_BadPrices.binds (ps := ["self", "path"]) fun _ _ _ _ _ _ us hl => match us, hl with | [_, _], _ => rfl
  exact ⟨{ a_wall := f_wall, fd_wall := _, F_wall := F_wall, b_wall := b_wall, m_wall := PySem.W.mg_of X G a_wall, a_is_word := f_is_word, fd_is_word := _, F_is_word := F_is_word, b_is_word := b_is_word, m_is_word := PySem.W.mg_of X G a_is_word, a_is_integer := f_is_integer, fd_is_integer := _, F_is_integer := F_is_integer, b_is_integer := b_is_integer, m_is_integer := PySem.W.mg_of X G a_is_integer, a_is_number := f_is_number, fd_is_number := _, F_is_number := F_is_number, b_is_number := b_is_number, m_is_number := PySem.W.mg_of X G a_is_number, a_check_account := f_check_account, fd_check_account := _, F_check_account := F_check_account, b_check_account := b_check_account, m_check_account := PySem.W.mg_of X G a_check_account, a_cost := f_cost, fd_cost := _, F_cost := F_cost, b_cost := b_cost, m_cost := PySem.W.mg_of X G a_cost, a_cost_of := f_cost_of, fd_cost_of := _, F_cost_of := F_cost_of, b_cost_of := b_cost_of, m_cost_of := PySem.W.mg_of X G a_cost_of, a_check_prices := f_check_prices, fd_check_prices := _, F_check_prices := F_check_prices, b_check_prices := b_check_prices, m_check_prices := PySem.W.mg_of X G a_check_prices, a_cancels_at := f_cancels_at, fd_cancels_at := _, F_cancels_at := F_cancels_at, b_cancels_at := b_cancels_at, m_cancels_at := PySem.W.mg_of X G a_cancels_at, a_wrong_goods := f_wrong_goods, fd_wrong_goods := _, F_wrong_goods := F_wrong_goods, b_wrong_goods := b_wrong_goods, m_wrong_goods := PySem.W.mg_of X G a_wrong_goods, a_wrong_barters := f_wrong_barters, fd_wrong_barters := _, F_wrong_barters := F_wrong_barters, b_wrong_barters := b_wrong_barters, m_wrong_barters := PySem.W.mg_of X G a_wrong_barters, a_wrong_barter := f_wrong_barter, fd_wrong_barter := _, F_wrong_barter := F_wrong_barter, b_wrong_barter := b_wrong_barter, m_wrong_barter := PySem.W.mg_of X G a_wrong_barter, a_wrong_row := f_wrong_row, fd_wrong_row := _, F_wrong_row := F_wrong_row, b_wrong_row := b_wrong_row, m_wrong_row := PySem.W.mg_of X G a_wrong_row, a_is_mixed := f_is_mixed, fd_is_mixed := _, F_is_mixed := F_is_mixed, b_is_mixed := b_is_mixed, m_is_mixed := PySem.W.mg_of X G a_is_mixed, a_law_wrong_account := f_law_wrong_account, fd_law_wrong_account := _, F_law_wrong_account := F_law_wrong_account, b_law_wrong_account := b_law_wrong_account, m_law_wrong_account := PySem.W.mg_of X G a_law_wrong_account, a_law_source := f_law_source, fd_law_source := _, F_law_source := F_law_source, b_law_source := b_law_source, m_law_source := PySem.W.mg_of X G a_law_source, a_law_pick := f_law_pick, fd_law_pick := _, F_law_pick := F_law_pick, b_law_pick := b_law_pick, m_law_pick := PySem.W.mg_of X G a_law_pick, a_law_names := f_law_names, fd_law_names := _, F_law_names := F_law_names, b_law_names := b_law_names, m_law_names := PySem.W.mg_of X G a_law_names, a_law_made := f_law_made, fd_law_made := _, F_law_made := F_law_made, b_law_made := b_law_made, m_law_made := PySem.W.mg_of X G a_law_made, a_law_of := f_law_of, fd_law_of := _, F_law_of := F_law_of, b_law_of := b_law_of, m_law_of := PySem.W.mg_of X G a_law_of, a_law_mixed := f_law_mixed, fd_law_mixed := _, F_law_mixed := F_law_mixed, b_law_mixed := b_law_mixed, m_law_mixed := PySem.W.mg_of X G a_law_mixed, a_law_any_row := f_law_any_row, fd_law_any_row := _, F_law_any_row := F_law_any_row, b_law_any_row := b_law_any_row, m_law_any_row := PySem.W.mg_of X G a_law_any_row, a_law_any_book := f_law_any_book, fd_law_any_book := _, F_law_any_book := F_law_any_book, b_law_any_book := b_law_any_book, m_law_any_book := PySem.W.mg_of X G a_law_any_book, a_law_tree := f_law_tree, fd_law_tree := _, F_law_tree := F_law_tree, b_law_tree := b_law_tree, m_law_tree := PySem.W.mg_of X G a_law_tree, a_law_leaves := f_law_leaves, fd_law_leaves := _, F_law_leaves := F_law_leaves, b_law_leaves := b_law_leaves, m_law_leaves := PySem.W.mg_of X G a_law_leaves, a_law_forked := f_law_forked, fd_law_forked := _, F_law_forked := F_law_forked, b_law_forked := b_law_forked, m_law_forked := PySem.W.mg_of X G a_law_forked, a_law_book := f_law_book, fd_law_book := _, F_law_book := F_law_book, b_law_book := b_law_book, m_law_book := PySem.W.mg_of X G a_law_book, a_law_plus := f_law_plus, fd_law_plus := _, F_law_plus := F_law_plus, b_law_plus := b_law_plus, m_law_plus := PySem.W.mg_of X G a_law_plus, a_law_summed := f_law_summed, fd_law_summed := _, F_law_summed := F_law_summed, b_law_summed := b_law_summed, m_law_summed := PySem.W.mg_of X G a_law_summed, a_law_account := f_law_account, fd_law_account := _, F_law_account := F_law_account, b_law_account := b_law_account, m_law_account := PySem.W.mg_of X G a_law_account, a_law_some_book := f_law_some_book, fd_law_some_book := _, F_law_some_book := F_law_some_book, b_law_some_book := b_law_some_book, m_law_some_book := PySem.W.mg_of X G a_law_some_book, a_law_odd := f_law_odd, fd_law_odd := _, F_law_odd := F_law_odd, b_law_odd := b_law_odd, m_law_odd := PySem.W.mg_of X G a_law_odd, a_law_near_accounts := f_law_near_accounts, fd_law_near_accounts := _, F_law_near_accounts := F_law_near_accounts, b_law_near_accounts := b_law_near_accounts, m_law_near_accounts := PySem.W.mg_of X G a_law_near_accounts, a_law_caught := f_law_caught, fd_law_caught := _, F_law_caught := F_law_caught, b_law_caught := b_law_caught, m_law_caught := PySem.W.mg_of X G a_law_caught, a_law_due := f_law_due, fd_law_due := _, F_law_due := F_law_due, b_law_due := b_law_due, m_law_due := PySem.W.mg_of X G a_law_due, a_law := _, fd_law := _, F_law := F_law, b_law := b_law, m_law := PySem.W.mg_of X G a_law, c_DIGITS := ⟨_, PySem.W.mg_of X G zc_DIGITS⟩, c_LETTERS := ⟨_, PySem.W.mg_of X G zc_LETTERS⟩, c_LONGEST_WORD := ⟨_, PySem.W.mg_of X G zc_LONGEST_WORD⟩, n_abs := PySem.W.mg_none_of X G zn_abs, n_all := PySem.W.mg_none_of X G zn_all, n_any := PySem.W.mg_none_of X G zn_any, n_bool := PySem.W.mg_none_of X G zn_bool, n_dict := PySem.W.mg_none_of X G zn_dict, n_enumerate := PySem.W.mg_none_of X G zn_enumerate, n_int := PySem.W.mg_none_of X G zn_int, n_isinstance := PySem.W.mg_none_of X G zn_isinstance, n_len := PySem.W.mg_none_of X G zn_len, n_list := PySem.W.mg_none_of X G zn_list, n_max := PySem.W.mg_none_of X G zn_max, n_min := PySem.W.mg_none_of X G zn_min, n_range := PySem.W.mg_none_of X G zn_range, n_repr := PySem.W.mg_none_of X G zn_repr, n_str := PySem.W.mg_none_of X G zn_str, n_sum := PySem.W.mg_none_of X G zn_sum, n_tuple := PySem.W.mg_none_of X G zn_tuple, n_zip := PySem.W.mg_none_of X G zn_zip, C_Book := C_Book, cl_Book := ⟨pg_Book, hd_Book, po_Book, sa_Book⟩, m_Book := PySem.W.mg_of X G aC_Book, na_Book_goods := na_goods_Book, na_Book_barters := na_barters_Book, na_Book_good_numbers := na_good_numbers_Book, na_Book_barter_numbers := na_barter_numbers_Book, a_Book_init := f_Book_init, fd_Book_init := _, F_Book_init := F_Book_init, b_Book_init := b_Book_init, M_Book := ⟨mk_Book, a_Book_init, i_Book_init, kC_Book⟩, a_Book_names := f_Book_names, fd_Book_names := _, F_Book_names := F_Book_names, b_Book_names := b_Book_names, me_Book_names := ⟨a_Book_names, i_Book_names, k_Book_names⟩, a_Book_barters := f_Book_barters, fd_Book_barters := _, F_Book_barters := F_Book_barters, b_Book_barters := b_Book_barters, me_Book_barters := ⟨a_Book_barters, i_Book_barters, k_Book_barters⟩, a_Book_goods := f_Book_goods, fd_Book_goods := _, F_Book_goods := F_Book_goods, b_Book_goods := b_Book_goods, me_Book_goods := ⟨a_Book_goods, i_Book_goods, k_Book_goods⟩, e_BadAccount := { C := C_BadAccount, fI := fi_BadAccount, fd := _, oex := { cls := ⟨nm_BadAccount, q_BadAccount, N_BadAccount, bs_BadAccount, _, sn_BadAccount, sub_BadAccount, ab_BadAccount, col_BadAccount, dd_BadAccount, m0_BadAccount, m1_BadAccount, m2_BadAccount, m3_BadAccount, m5_BadAccount, xL_BadAccount, rfl⟩, sa := sa_BadAccount, exC := eC_BadAccount, tyC := tC_BadAccount, kC := kC_BadAccount }, xf := ⟨ga_BadAccount, gg_BadAccount, eC_BadAccount, hC_BadAccount⟩, iC := ai_BadAccount, tI := ti_BadAccount, noF := nf_BadAccount, F := Fi_BadAccount, b := bi_BadAccount, m := PySem.W.mg_of X G aC_BadAccount, te := exm_own eC_BadAccount iC_BadAccount tC_BadAccount sC_BadAccount }, e_BadPrices := { C := C_BadPrices, fI := fi_BadPrices, fd := _, oex := { cls := ⟨nm_BadPrices, q_BadPrices, N_BadPrices, bs_BadPrices, _, sn_BadPrices, sub_BadPrices, ab_BadPrices, col_BadPrices, dd_BadPrices, m0_BadPrices, m1_BadPrices, m2_BadPrices, m3_BadPrices, m5_BadPrices, xL_BadPrices, rfl⟩, sa := sa_BadPrices, exC := eC_BadPrices, tyC := tC_BadPrices, kC := kC_BadPrices }, xf := ⟨ga_BadPrices, gg_BadPrices, eC_BadPrices, hC_BadPrices⟩, iC := ai_BadPrices, tI := ti_BadPrices, noF := nf_BadPrices, F := Fi_BadPrices, b := bi_BadPrices, m := PySem.W.mg_of X G aC_BadPrices, te := exm_own eC_BadPrices iC_BadPrices tC_BadPrices sC_BadPrices }, xm_BadPrices_BadAccount := exm_pair eC_BadAccount iC_BadAccount tC_BadAccount xs_BadPrices_BadAccount }, rfl, fun s v => .of_eq rfl, ⟨_, _, _, _, l_law, rfl⟩, np_law, PySem.W.codeHd_of_K X hh_law⟩
theorem walk {l : PySem.W.OpenLaw} {q : Program} {loose : List Str} {XP : (Str → Option Value) → Heap → Prop} {YP : World → Heap → Prop} {d : DefRec} {K : Params → PySem.W.Frag} {pp : Addr} (hn : l.most = some 63) (hdf : d.params.defaults = [])
    (hY : ∀ (w : World) (h : Heap), YP w h → (K w.params).In h ∧ h.get? pp = some (PySem.W.tabObj #[]))
    (F : ∀ (w : World) (mg : Str → Option Value) (fa : Addr) (h : Heap), (K w.params).In h → h.Ns mainGlobals mg → mg d.name = some (.ref fa) →
      ∃ (fd : FuncData) (c : Addr), (K w.params).lookup pp = none ∧ PySem.W.CodeHd h c pp ∧ (∀ (s : Shared) (u : Value), BindsTo s fd ⟨[u], []⟩ [("_law_script", u)]) ∧ ∀ base : Heap, (K w.params).In base → base.Ns mainGlobals mg → LamX.TabB base mg c pp → FnG l.prog w (K w.params) mg base 61 fa fd ["_law_script"] (spLawT (K w.params) pp)) :
    PySem.W.WalkO q loose XP YP l.row.toRowW d [] (fun f vs => PySem.call f vs) :=
  walk_ofT (n := 63) (k := 61) (p := pp) (x := "_law_script") (sp := fun w => spLawT (K w.params) pp) hn (by decide) hdf ⟨rfl, by decide, by decide⟩ hY F fun _ _ a ns hl hp hS => ⟨a, ns, rfl, hS, hl, hp, fun _ => rfl⟩
end My
open PySem PySem.W PyProof.Rows
set_option maxRecDepth 100000 in
set_option maxHeartbeats 0 in
theorem PySem.Challenge.cw_eitherbarter_k27_costs_holds : PySem.Challenge.rw_eitherbarter_k27_costs.Holds := by
  w_on; o_law; k_head; (case hw => w_witness2)
  k_fill
  refine My.walk (l := PySem.Challenge.rw_eitherbarter_k27_costs) (pp := 429) rfl rfl (fun w h Y => ⟨PySem.W.km_in_of Y, PySem.W.km_tabs_of Y 429 (by decide)⟩) ?F
  case F =>
    intro w mg fa h KX G hmg
    refine' Exists.elim (My.tx_mk KX G hmg ?a_wall ?l_wall ?c_wall ?k_wall ?a_is_word ?l_is_word ?c_is_word ?k_is_word ?a_is_integer ?l_is_integer ?c_is_integer ?k_is_integer ?a_is_number ?l_is_number ?c_is_number ?k_is_number ?a_check_account ?l_check_account ?c_check_account ?k_check_account ?a_cost ?l_cost ?c_cost ?k_cost ?a_cost_of ?l_cost_of ?c_cost_of ?k_cost_of ?a_check_prices ?l_check_prices ?c_check_prices ?k_check_prices ?a_cancels_at ?l_cancels_at ?c_cancels_at ?k_cancels_at ?a_wrong_goods ?l_wrong_goods ?c_wrong_goods ?k_wrong_goods ?a_wrong_barters ?l_wrong_barters ?c_wrong_barters ?k_wrong_barters ?a_wrong_barter ?l_wrong_barter ?c_wrong_barter ?k_wrong_barter ?a_wrong_row ?l_wrong_row ?c_wrong_row ?k_wrong_row ?a_is_mixed ?l_is_mixed ?c_is_mixed ?k_is_mixed ?a_law_wrong_account ?l_law_wrong_account ?c_law_wrong_account ?k_law_wrong_account ?a_law_source ?l_law_source ?c_law_source ?k_law_source ?a_law_pick ?l_law_pick ?c_law_pick ?k_law_pick ?a_law_names ?l_law_names ?c_law_names ?k_law_names ?a_law_made ?l_law_made ?c_law_made ?k_law_made ?a_law_of ?l_law_of ?c_law_of ?k_law_of ?a_law_mixed ?l_law_mixed ?c_law_mixed ?k_law_mixed ?a_law_any_row ?l_law_any_row ?c_law_any_row ?k_law_any_row ?a_law_any_book ?l_law_any_book ?c_law_any_book ?k_law_any_book ?a_law_tree ?l_law_tree ?c_law_tree ?k_law_tree ?a_law_leaves ?l_law_leaves ?c_law_leaves ?k_law_leaves ?a_law_forked ?l_law_forked ?c_law_forked ?k_law_forked ?a_law_book ?l_law_book ?c_law_book ?k_law_book ?a_law_plus ?l_law_plus ?c_law_plus ?k_law_plus ?a_law_summed ?l_law_summed ?c_law_summed ?k_law_summed ?a_law_account ?l_law_account ?c_law_account ?k_law_account ?a_law_some_book ?l_law_some_book ?c_law_some_book ?k_law_some_book ?a_law_odd ?l_law_odd ?c_law_odd ?k_law_odd ?a_law_near_accounts ?l_law_near_accounts ?c_law_near_accounts ?k_law_near_accounts ?a_law_caught ?l_law_caught ?c_law_caught ?k_law_caught ?a_law_due ?l_law_due ?c_law_due ?k_law_due ?a_law ?l_law ?c_law ?k_law 429 ?hh_law ?np_law ?aC_Book ?pg_Book ?hd_Book ?po_Book ?sa_Book ?mk_Book ?kC_Book ?na_goods_Book ?na_barters_Book ?na_good_numbers_Book ?na_barter_numbers_Book ?a_Book_init ?i_Book_init ?l_Book_init ?c_Book_init ?k_Book_init ?a_Book_names ?i_Book_names ?l_Book_names ?c_Book_names ?k_Book_names ?a_Book_barters ?i_Book_barters ?l_Book_barters ?c_Book_barters ?k_Book_barters ?a_Book_goods ?i_Book_goods ?l_Book_goods ?c_Book_goods ?k_Book_goods ?aC_BadAccount ?xL_BadAccount ?sa_BadAccount ?ga_BadAccount ?gg_BadAccount ?nf_BadAccount ?ai_BadAccount ?ti_BadAccount ?li_BadAccount ?ci_BadAccount ?ki_BadAccount ?kC_BadAccount ?eC_BadAccount ?tC_BadAccount ?hC_BadAccount ?iC_BadAccount ?sC_BadAccount ?aC_BadPrices ?xL_BadPrices ?sa_BadPrices ?ga_BadPrices ?gg_BadPrices ?nf_BadPrices ?ai_BadPrices ?ti_BadPrices ?li_BadPrices ?ci_BadPrices ?ki_BadPrices ?kC_BadPrices ?eC_BadPrices ?tC_BadPrices ?hC_BadPrices ?iC_BadPrices ?sC_BadPrices ?xs_BadPrices_BadAccount ?zc_DIGITS ?zc_LETTERS ?zc_LONGEST_WORD ?zn_abs ?zn_all ?zn_any ?zn_bool ?zn_dict ?zn_enumerate ?zn_int ?zn_isinstance ?zn_len ?zn_list ?zn_max ?zn_min ?zn_range ?zn_repr ?zn_str ?zn_sum ?zn_tuple ?zn_zip) (fun T hT => ?fin)
    (case a_wall => k_is)
    (case l_wall => k_is)
    (case c_wall => k_is)
    (case k_wall => k_is)
    (case a_is_word => k_is)
    (case l_is_word => k_is)
    (case c_is_word => k_is)
    (case k_is_word => k_is)
    (case a_is_integer => k_is)
    (case l_is_integer => k_is)
    (case c_is_integer => k_is)
    (case k_is_integer => k_is)
    (case a_is_number => k_is)
    (case l_is_number => k_is)
    (case c_is_number => k_is)
    (case k_is_number => k_is)
    (case a_check_account => k_is)
    (case l_check_account => k_is)
    (case c_check_account => k_is)
    (case k_check_account => k_is)
    (case a_cost => k_is)
    (case l_cost => k_is)
    (case c_cost => k_is)
    (case k_cost => k_is)
    (case a_cost_of => k_is)
    (case l_cost_of => k_is)
    (case c_cost_of => k_is)
    (case k_cost_of => k_is)
    (case a_check_prices => k_is)
    (case l_check_prices => k_is)
    (case c_check_prices => k_is)
    (case k_check_prices => k_is)
    (case a_cancels_at => k_is)
    (case l_cancels_at => k_is)
    (case c_cancels_at => k_is)
    (case k_cancels_at => k_is)
    (case a_wrong_goods => k_is)
    (case l_wrong_goods => k_is)
    (case c_wrong_goods => k_is)
    (case k_wrong_goods => k_is)
    (case a_wrong_barters => k_is)
    (case l_wrong_barters => k_is)
    (case c_wrong_barters => k_is)
    (case k_wrong_barters => k_is)
    (case a_wrong_barter => k_is)
    (case l_wrong_barter => k_is)
    (case c_wrong_barter => k_is)
    (case k_wrong_barter => k_is)
    (case a_wrong_row => k_is)
    (case l_wrong_row => k_is)
    (case c_wrong_row => k_is)
    (case k_wrong_row => k_is)
    (case a_is_mixed => k_is)
    (case l_is_mixed => k_is)
    (case c_is_mixed => k_is)
    (case k_is_mixed => k_is)
    (case a_law_wrong_account => k_is)
    (case l_law_wrong_account => k_is)
    (case c_law_wrong_account => k_is)
    (case k_law_wrong_account => k_is)
    (case a_law_source => k_is)
    (case l_law_source => k_is)
    (case c_law_source => k_is)
    (case k_law_source => k_is)
    (case a_law_pick => k_is)
    (case l_law_pick => k_is)
    (case c_law_pick => k_is)
    (case k_law_pick => k_is)
    (case a_law_names => k_is)
    (case l_law_names => k_is)
    (case c_law_names => k_is)
    (case k_law_names => k_is)
    (case a_law_made => k_is)
    (case l_law_made => k_is)
    (case c_law_made => k_is)
    (case k_law_made => k_is)
    (case a_law_of => k_is)
    (case l_law_of => k_is)
    (case c_law_of => k_is)
    (case k_law_of => k_is)
    (case a_law_mixed => k_is)
    (case l_law_mixed => k_is)
    (case c_law_mixed => k_is)
    (case k_law_mixed => k_is)
    (case a_law_any_row => k_is)
    (case l_law_any_row => k_is)
    (case c_law_any_row => k_is)
    (case k_law_any_row => k_is)
    (case a_law_any_book => k_is)
    (case l_law_any_book => k_is)
    (case c_law_any_book => k_is)
    (case k_law_any_book => k_is)
    (case a_law_tree => k_is)
    (case l_law_tree => k_is)
    (case c_law_tree => k_is)
    (case k_law_tree => k_is)
    (case a_law_leaves => k_is)
    (case l_law_leaves => k_is)
    (case c_law_leaves => k_is)
    (case k_law_leaves => k_is)
    (case a_law_forked => k_is)
    (case l_law_forked => k_is)
    (case c_law_forked => k_is)
    (case k_law_forked => k_is)
    (case a_law_book => k_is)
    (case l_law_book => k_is)
    (case c_law_book => k_is)
    (case k_law_book => k_is)
    (case a_law_plus => k_is)
    (case l_law_plus => k_is)
    (case c_law_plus => k_is)
    (case k_law_plus => k_is)
    (case a_law_summed => k_is)
    (case l_law_summed => k_is)
    (case c_law_summed => k_is)
    (case k_law_summed => k_is)
    (case a_law_account => k_is)
    (case l_law_account => k_is)
    (case c_law_account => k_is)
    (case k_law_account => k_is)
    (case a_law_some_book => k_is)
    (case l_law_some_book => k_is)
    (case c_law_some_book => k_is)
    (case k_law_some_book => k_is)
    (case a_law_odd => k_is)
    (case l_law_odd => k_is)
    (case c_law_odd => k_is)
    (case k_law_odd => k_is)
    (case a_law_near_accounts => k_is)
    (case l_law_near_accounts => k_is)
    (case c_law_near_accounts => k_is)
    (case k_law_near_accounts => k_is)
    (case a_law_caught => k_is)
    (case l_law_caught => k_is)
    (case c_law_caught => k_is)
    (case k_law_caught => k_is)
    (case a_law_due => k_is)
    (case l_law_due => k_is)
    (case c_law_due => k_is)
    (case k_law_due => k_is)
    (case a_law => k_is)
    (case l_law => k_is)
    (case c_law => k_is)
    (case k_law => k_is)
    (case hh_law => kernel_rfl)
    (case np_law => kernel_rfl)
    (case aC_Book => k_is)
    (case pg_Book => k_is)
    (case hd_Book => k_is)
    (case po_Book => k_is)
    (case sa_Book => k_is)
    (case mk_Book => k_is)
    (case kC_Book => k_is)
    (case na_goods_Book => k_is)
    (case na_barters_Book => k_is)
    (case na_good_numbers_Book => k_is)
    (case na_barter_numbers_Book => k_is)
    (case a_Book_init => k_is)
    (case i_Book_init => k_is)
    (case l_Book_init => k_is)
    (case c_Book_init => k_is)
    (case k_Book_init => k_is)
    (case a_Book_names => k_is)
    (case i_Book_names => k_is)
    (case l_Book_names => k_is)
    (case c_Book_names => k_is)
    (case k_Book_names => k_is)
    (case a_Book_barters => k_is)
    (case i_Book_barters => k_is)
    (case l_Book_barters => k_is)
    (case c_Book_barters => k_is)
    (case k_Book_barters => k_is)
    (case a_Book_goods => k_is)
    (case i_Book_goods => k_is)
    (case l_Book_goods => k_is)
    (case c_Book_goods => k_is)
    (case k_Book_goods => k_is)
    (case aC_BadAccount => k_is)
    (case xL_BadAccount => k_is)
    (case sa_BadAccount => k_is)
    (case ga_BadAccount => k_is)
    (case gg_BadAccount => k_is)
    (case nf_BadAccount => k_is)
    (case ai_BadAccount => k_is)
    (case ti_BadAccount => k_is)
    (case li_BadAccount => k_is)
    (case ci_BadAccount => k_is)
    (case ki_BadAccount => k_is)
    (case kC_BadAccount => k_is)
    (case eC_BadAccount => k_is)
    (case tC_BadAccount => k_is)
    (case hC_BadAccount => k_is)
    (case iC_BadAccount => k_is)
    (case sC_BadAccount => k_is)
    (case aC_BadPrices => k_is)
    (case xL_BadPrices => k_is)
    (case sa_BadPrices => k_is)
    (case ga_BadPrices => k_is)
    (case gg_BadPrices => k_is)
    (case nf_BadPrices => k_is)
    (case ai_BadPrices => k_is)
    (case ti_BadPrices => k_is)
    (case li_BadPrices => k_is)
    (case ci_BadPrices => k_is)
    (case ki_BadPrices => k_is)
    (case kC_BadPrices => k_is)
    (case eC_BadPrices => k_is)
    (case tC_BadPrices => k_is)
    (case hC_BadPrices => k_is)
    (case iC_BadPrices => k_is)
    (case sC_BadPrices => k_is)
    (case xs_BadPrices_BadAccount => k_is)
    (case zc_DIGITS => k_is)
    (case zc_LETTERS => k_is)
    (case zc_LONGEST_WORD => k_is)
    (case zn_abs => k_is)
    (case zn_all => k_is)
    (case zn_any => k_is)
    (case zn_bool => k_is)
    (case zn_dict => k_is)
    (case zn_enumerate => k_is)
    (case zn_int => k_is)
    (case zn_isinstance => k_is)
    (case zn_len => k_is)
    (case zn_list => k_is)
    (case zn_max => k_is)
    (case zn_min => k_is)
    (case zn_range => k_is)
    (case zn_repr => k_is)
    (case zn_str => k_is)
    (case zn_sum => k_is)
    (case zn_tuple => k_is)
    (case zn_zip => k_is)
    (case fin => (obtain ⟨e, hb, hc, np, hh⟩ := hT; subst e; exact ⟨T.fd_law, _, np, hh, hb, fun base _ _ TB => My.ok_law T hc TB⟩))
#print axioms PySem.Challenge.cw_eitherbarter_k27_costs_holds
